/-
  The kind of an op as a plain function: the ranges of the document's kinds.
  Conditions: none.
-/
import Derived.WalkKit
namespace Go.Proofs.Ytecpghenjannhaa.D
def lasts : List Int := [0, 4, 10, 17, 21, 30, 40, 44, 49, 57, 62, 69, 75, 86, 97]
/-- The kind of an op. -/
def kindV (o : Int) : Int :=
  if o ≤ 0 then 0 else if o ≤ 4 then 1 else if o ≤ 10 then 2 else if o ≤ 17 then 3 else if o ≤ 21 then 4 else if o ≤ 30 then 5 else if o ≤ 40 then 6 else if o ≤ 44 then 7
  else if o ≤ 49 then 8 else if o ≤ 57 then 9 else if o ≤ 62 then 10 else if o ≤ 69 then 11 else if o ≤ 75 then 12 else if o ≤ 86 then 13 else if o ≤ 97 then 14 else 0
theorem fifteen (k : Nat) (hk : k < 15) : k = 0 ∨ k = 1 ∨ k = 2 ∨ k = 3 ∨ k = 4 ∨ k = 5 ∨ k = 6 ∨ k = 7 ∨ k = 8 ∨ k = 9 ∨ k = 10 ∨ k = 11 ∨ k = 12 ∨ k = 13 ∨ k = 14 := by omega
theorem kind_at (o : Int) (k : Nat) (hk : k < 15) (h1 : o ≤ lasts.getD k 0) (h2 : k = 0 ∨ lasts.getD (k - 1) 0 < o) : kindV o = k := by
  rcases fifteen k hk with rfl | rfl | rfl | rfl | rfl | rfl | rfl | rfl | rfl | rfl | rfl | rfl | rfl | rfl | rfl
  · replace h1 : o ≤ (0 : Int) := h1
    have h2 : True := trivial
    unfold kindV
    rw [if_pos (by omega)]; rfl
  · replace h1 : o ≤ (4 : Int) := h1
    replace h2 : (0 : Int) < o := by rcases h2 with h2 | h2; exact absurd h2 (by decide); exact h2
    unfold kindV
    rw [if_neg (by omega), if_pos (by omega)]; rfl
  · replace h1 : o ≤ (10 : Int) := h1
    replace h2 : (4 : Int) < o := by rcases h2 with h2 | h2; exact absurd h2 (by decide); exact h2
    unfold kindV
    rw [if_neg (by omega), if_neg (by omega), if_pos (by omega)]; rfl
  · replace h1 : o ≤ (17 : Int) := h1
    replace h2 : (10 : Int) < o := by rcases h2 with h2 | h2; exact absurd h2 (by decide); exact h2
    unfold kindV
    rw [if_neg (by omega), if_neg (by omega), if_neg (by omega), if_pos (by omega)]; rfl
  · replace h1 : o ≤ (21 : Int) := h1
    replace h2 : (17 : Int) < o := by rcases h2 with h2 | h2; exact absurd h2 (by decide); exact h2
    unfold kindV
    rw [if_neg (by omega), if_neg (by omega), if_neg (by omega), if_neg (by omega), if_pos (by omega)]; rfl
  · replace h1 : o ≤ (30 : Int) := h1
    replace h2 : (21 : Int) < o := by rcases h2 with h2 | h2; exact absurd h2 (by decide); exact h2
    unfold kindV
    rw [if_neg (by omega), if_neg (by omega), if_neg (by omega), if_neg (by omega), if_neg (by omega), if_pos (by omega)]; rfl
  · replace h1 : o ≤ (40 : Int) := h1
    replace h2 : (30 : Int) < o := by rcases h2 with h2 | h2; exact absurd h2 (by decide); exact h2
    unfold kindV
    rw [if_neg (by omega), if_neg (by omega), if_neg (by omega), if_neg (by omega), if_neg (by omega), if_neg (by omega), if_pos (by omega)]; rfl
  · replace h1 : o ≤ (44 : Int) := h1
    replace h2 : (40 : Int) < o := by rcases h2 with h2 | h2; exact absurd h2 (by decide); exact h2
    unfold kindV
    rw [if_neg (by omega), if_neg (by omega), if_neg (by omega), if_neg (by omega), if_neg (by omega), if_neg (by omega), if_neg (by omega), if_pos (by omega)]; rfl
  · replace h1 : o ≤ (49 : Int) := h1
    replace h2 : (44 : Int) < o := by rcases h2 with h2 | h2; exact absurd h2 (by decide); exact h2
    unfold kindV
    rw [if_neg (by omega), if_neg (by omega), if_neg (by omega), if_neg (by omega), if_neg (by omega), if_neg (by omega), if_neg (by omega), if_neg (by omega), if_pos (by omega)]; rfl
  · replace h1 : o ≤ (57 : Int) := h1
    replace h2 : (49 : Int) < o := by rcases h2 with h2 | h2; exact absurd h2 (by decide); exact h2
    unfold kindV
    rw [if_neg (by omega), if_neg (by omega), if_neg (by omega), if_neg (by omega), if_neg (by omega), if_neg (by omega), if_neg (by omega), if_neg (by omega), if_neg (by omega), if_pos (by omega)]; rfl
  · replace h1 : o ≤ (62 : Int) := h1
    replace h2 : (57 : Int) < o := by rcases h2 with h2 | h2; exact absurd h2 (by decide); exact h2
    unfold kindV
    rw [if_neg (by omega), if_neg (by omega), if_neg (by omega), if_neg (by omega), if_neg (by omega), if_neg (by omega), if_neg (by omega), if_neg (by omega), if_neg (by omega), if_neg (by omega), if_pos (by omega)]; rfl
  · replace h1 : o ≤ (69 : Int) := h1
    replace h2 : (62 : Int) < o := by rcases h2 with h2 | h2; exact absurd h2 (by decide); exact h2
    unfold kindV
    rw [if_neg (by omega), if_neg (by omega), if_neg (by omega), if_neg (by omega), if_neg (by omega), if_neg (by omega), if_neg (by omega), if_neg (by omega), if_neg (by omega), if_neg (by omega), if_neg (by omega), if_pos (by omega)]; rfl
  · replace h1 : o ≤ (75 : Int) := h1
    replace h2 : (69 : Int) < o := by rcases h2 with h2 | h2; exact absurd h2 (by decide); exact h2
    unfold kindV
    rw [if_neg (by omega), if_neg (by omega), if_neg (by omega), if_neg (by omega), if_neg (by omega), if_neg (by omega), if_neg (by omega), if_neg (by omega), if_neg (by omega), if_neg (by omega), if_neg (by omega), if_neg (by omega), if_pos (by omega)]; rfl
  · replace h1 : o ≤ (86 : Int) := h1
    replace h2 : (75 : Int) < o := by rcases h2 with h2 | h2; exact absurd h2 (by decide); exact h2
    unfold kindV
    rw [if_neg (by omega), if_neg (by omega), if_neg (by omega), if_neg (by omega), if_neg (by omega), if_neg (by omega), if_neg (by omega), if_neg (by omega), if_neg (by omega), if_neg (by omega), if_neg (by omega), if_neg (by omega), if_neg (by omega), if_pos (by omega)]; rfl
  · replace h1 : o ≤ (97 : Int) := h1
    replace h2 : (86 : Int) < o := by rcases h2 with h2 | h2; exact absurd h2 (by decide); exact h2
    unfold kindV
    rw [if_neg (by omega), if_neg (by omega), if_neg (by omega), if_neg (by omega), if_neg (by omega), if_neg (by omega), if_neg (by omega), if_neg (by omega), if_neg (by omega), if_neg (by omega), if_neg (by omega), if_neg (by omega), if_neg (by omega), if_neg (by omega), if_pos (by omega)]; rfl
theorem kind_none (o : Int) (h : 97 < o) : kindV o = 0 := by
  unfold kindV
  rw [if_neg (by omega), if_neg (by omega), if_neg (by omega), if_neg (by omega), if_neg (by omega), if_neg (by omega), if_neg (by omega), if_neg (by omega), if_neg (by omega), if_neg (by omega), if_neg (by omega), if_neg (by omega), if_neg (by omega), if_neg (by omega), if_neg (by omega)]
end Go.Proofs.Ytecpghenjannhaa.D
