/-
  What Kind of package decode answers, over its table: a contract over the program's translation.
  Conditions: the table, a variable of the package, holds what its text lays.
-/
import Derived.Test.YtdcihcmhmgeheaaDoorDecS
namespace Go.Proofs.YtdcihcmhmgeheaaDoor.D
def lasts : List Int := [0, 4, 10, 17, 21, 30, 40, 44, 49, 57, 62, 69, 75, 86, 97]
/-- The kind of an op. -/
def kindV (o : Int) : Int :=
  if o ≤ 0 then 0 else if o ≤ 4 then 1 else if o ≤ 10 then 2 else if o ≤ 17 then 3 else if o ≤ 21 then 4 else if o ≤ 30 then 5 else if o ≤ 40 then 6 else if o ≤ 44 then 7
  else if o ≤ 49 then 8 else if o ≤ 57 then 9 else if o ≤ 62 then 10 else if o ≤ 69 then 11 else if o ≤ 75 then 12 else if o ≤ 86 then 13 else if o ≤ 97 then 14 else 0
theorem fifteen (k : Nat) (hk : k < 15) : k = 0 ∨ k = 1 ∨ k = 2 ∨ k = 3 ∨ k = 4 ∨ k = 5 ∨ k = 6 ∨ k = 7 ∨ k = 8 ∨ k = 9 ∨ k = 10 ∨ k = 11 ∨ k = 12 ∨ k = 13 ∨ k = 14 := by omega
theorem kind_at (o : Int) (k : Nat) (hk : k < 15) (h1 : o ≤ lasts.getD k 0) (h2 : k = 0 ∨ lasts.getD (k - 1) 0 < o) : kindV o = k := by
  rcases fifteen k hk with rfl | rfl | rfl | rfl | rfl | rfl | rfl | rfl | rfl | rfl | rfl | rfl | rfl | rfl | rfl
  · replace h1 : o ≤ (0 : Int) := h1
    have h2 : True := trivial
    unfold kindV
    rw [if_pos (by omega)]; rfl
  · replace h1 : o ≤ (4 : Int) := h1
    replace h2 : (0 : Int) < o := by rcases h2 with h2 | h2; exact absurd h2 (by decide); exact h2
    unfold kindV
    rw [if_neg (by omega), if_pos (by omega)]; rfl
  · replace h1 : o ≤ (10 : Int) := h1
    replace h2 : (4 : Int) < o := by rcases h2 with h2 | h2; exact absurd h2 (by decide); exact h2
    unfold kindV
    rw [if_neg (by omega), if_neg (by omega), if_pos (by omega)]; rfl
  · replace h1 : o ≤ (17 : Int) := h1
    replace h2 : (10 : Int) < o := by rcases h2 with h2 | h2; exact absurd h2 (by decide); exact h2
    unfold kindV
    rw [if_neg (by omega), if_neg (by omega), if_neg (by omega), if_pos (by omega)]; rfl
  · replace h1 : o ≤ (21 : Int) := h1
    replace h2 : (17 : Int) < o := by rcases h2 with h2 | h2; exact absurd h2 (by decide); exact h2
    unfold kindV
    rw [if_neg (by omega), if_neg (by omega), if_neg (by omega), if_neg (by omega), if_pos (by omega)]; rfl
  · replace h1 : o ≤ (30 : Int) := h1
    replace h2 : (21 : Int) < o := by rcases h2 with h2 | h2; exact absurd h2 (by decide); exact h2
    unfold kindV
    rw [if_neg (by omega), if_neg (by omega), if_neg (by omega), if_neg (by omega), if_neg (by omega), if_pos (by omega)]; rfl
  · replace h1 : o ≤ (40 : Int) := h1
    replace h2 : (30 : Int) < o := by rcases h2 with h2 | h2; exact absurd h2 (by decide); exact h2
    unfold kindV
    rw [if_neg (by omega), if_neg (by omega), if_neg (by omega), if_neg (by omega), if_neg (by omega), if_neg (by omega), if_pos (by omega)]; rfl
  · replace h1 : o ≤ (44 : Int) := h1
    replace h2 : (40 : Int) < o := by rcases h2 with h2 | h2; exact absurd h2 (by decide); exact h2
    unfold kindV
    rw [if_neg (by omega), if_neg (by omega), if_neg (by omega), if_neg (by omega), if_neg (by omega), if_neg (by omega), if_neg (by omega), if_pos (by omega)]; rfl
  · replace h1 : o ≤ (49 : Int) := h1
    replace h2 : (44 : Int) < o := by rcases h2 with h2 | h2; exact absurd h2 (by decide); exact h2
    unfold kindV
    rw [if_neg (by omega), if_neg (by omega), if_neg (by omega), if_neg (by omega), if_neg (by omega), if_neg (by omega), if_neg (by omega), if_neg (by omega), if_pos (by omega)]; rfl
  · replace h1 : o ≤ (57 : Int) := h1
    replace h2 : (49 : Int) < o := by rcases h2 with h2 | h2; exact absurd h2 (by decide); exact h2
    unfold kindV
    rw [if_neg (by omega), if_neg (by omega), if_neg (by omega), if_neg (by omega), if_neg (by omega), if_neg (by omega), if_neg (by omega), if_neg (by omega), if_neg (by omega), if_pos (by omega)]; rfl
  · replace h1 : o ≤ (62 : Int) := h1
    replace h2 : (57 : Int) < o := by rcases h2 with h2 | h2; exact absurd h2 (by decide); exact h2
    unfold kindV
    rw [if_neg (by omega), if_neg (by omega), if_neg (by omega), if_neg (by omega), if_neg (by omega), if_neg (by omega), if_neg (by omega), if_neg (by omega), if_neg (by omega), if_neg (by omega), if_pos (by omega)]; rfl
  · replace h1 : o ≤ (69 : Int) := h1
    replace h2 : (62 : Int) < o := by rcases h2 with h2 | h2; exact absurd h2 (by decide); exact h2
    unfold kindV
    rw [if_neg (by omega), if_neg (by omega), if_neg (by omega), if_neg (by omega), if_neg (by omega), if_neg (by omega), if_neg (by omega), if_neg (by omega), if_neg (by omega), if_neg (by omega), if_neg (by omega), if_pos (by omega)]; rfl
  · replace h1 : o ≤ (75 : Int) := h1
    replace h2 : (69 : Int) < o := by rcases h2 with h2 | h2; exact absurd h2 (by decide); exact h2
    unfold kindV
    rw [if_neg (by omega), if_neg (by omega), if_neg (by omega), if_neg (by omega), if_neg (by omega), if_neg (by omega), if_neg (by omega), if_neg (by omega), if_neg (by omega), if_neg (by omega), if_neg (by omega), if_neg (by omega), if_pos (by omega)]; rfl
  · replace h1 : o ≤ (86 : Int) := h1
    replace h2 : (75 : Int) < o := by rcases h2 with h2 | h2; exact absurd h2 (by decide); exact h2
    unfold kindV
    rw [if_neg (by omega), if_neg (by omega), if_neg (by omega), if_neg (by omega), if_neg (by omega), if_neg (by omega), if_neg (by omega), if_neg (by omega), if_neg (by omega), if_neg (by omega), if_neg (by omega), if_neg (by omega), if_neg (by omega), if_pos (by omega)]; rfl
  · replace h1 : o ≤ (97 : Int) := h1
    replace h2 : (86 : Int) < o := by rcases h2 with h2 | h2; exact absurd h2 (by decide); exact h2
    unfold kindV
    rw [if_neg (by omega), if_neg (by omega), if_neg (by omega), if_neg (by omega), if_neg (by omega), if_neg (by omega), if_neg (by omega), if_neg (by omega), if_neg (by omega), if_neg (by omega), if_neg (by omega), if_neg (by omega), if_neg (by omega), if_neg (by omega), if_pos (by omega)]; rfl
theorem kind_none (o : Int) (h : 97 < o) : kindV o = 0 := by
  unfold kindV
  rw [if_neg (by omega), if_neg (by omega), if_neg (by omega), if_neg (by omega), if_neg (by omega), if_neg (by omega), if_neg (by omega), if_neg (by omega), if_neg (by omega), if_neg (by omega), if_neg (by omega), if_neg (by omega), if_neg (by omega), if_neg (by omega), if_neg (by omega)]
end Go.Proofs.YtdcihcmhmgeheaaDoor.D
namespace Go.Proofs.YtdcihcmhmgeheaaDoor
open Go Go.RowKit F W M D
set_option linter.unusedVariables false

/-- The table of each kind's last op stands where the program's text lays it. -/
def Tbl (w : World) : Prop := ∀ i, i < 15 → w.cell? ⟨0, i, none⟩ = some (.int .i64 (lasts.getD i 0))
theorem Tbl.lt {w : World} (h : Tbl w) : 0 < w.heap.size := block_lt_of_cell (h 0 (by omega))
theorem Tbl.grown {w w' : World} (h : Tbl w) (hg : w.grownBy w' none) : Tbl w' := fun i hi => by
  rw [← h i hi]
  simp [World.cell?, hg.block 0 h.lt (by simp)]
def tblA : Array Value := #[.int .i64 0, .int .i64 4, .int .i64 10, .int .i64 17, .int .i64 21, .int .i64 30, .int .i64 40, .int .i64 44, .int .i64 49, .int .i64 57, .int .i64 62, .int .i64 69, .int .i64 75, .int .i64 86, .int .i64 97]
theorem tbl_at (k : Nat) (hk : k < 15) (w : World) : (Instr.index 40 (.agg #[.int .i64 0, .int .i64 4, .int .i64 10, .int .i64 17, .int .i64 21, .int .i64 30, .int .i64 40, .int .i64 44, .int .i64 49, .int .i64 57, .int .i64 62, .int .i64 69, .int .i64 75, .int .i64 86, .int .i64 97]) (.int .i64 k)).run Tryd.prog w = .ok (.int .i64 (lasts.getD k 0)) w := by
  rcases fifteen k hk with rfl | rfl | rfl | rfl | rfl | rfl | rfl | rfl | rfl | rfl | rfl | rfl | rfl | rfl | rfl
  all_goals kernel_rfl
set_option maxHeartbeats 1000000 in
theorem Kind_c (o : Int) (ho : -9223372036854775808 ≤ o ∧ o ≤ 9223372036854775807) (w : World) (h : Tbl w) :
    Calls Tryd.prog 10 #[.int .i64 o] w fun e w' => e = .returned (.int .i64 (kindV o)) ∧ w = w' := by
  have c0 := h 0 (by omega)
  have c1 := h 1 (by omega)
  have c2 := h 2 (by omega)
  have c3 := h 3 (by omega)
  have c4 := h 4 (by omega)
  have c5 := h 5 (by omega)
  have c6 := h 6 (by omega)
  have c7 := h 7 (by omega)
  have c8 := h 8 (by omega)
  have c9 := h 9 (by omega)
  have c10 := h 10 (by omega)
  have c11 := h 11 (by omega)
  have c12 := h 12 (by omega)
  have c13 := h 13 (by omega)
  have c14 := h 14 (by omega)
  simp [lasts] at c0 c1 c2 c3 c4 c5 c6 c7 c8 c9 c10 c11 c12 c13 c14
  clear h
  go_enter Tryd.func10, Tryd.ntmps10
  go_wp2_with fail
  go_loop [6] (fun i => ∃ k : Nat, k ≤ 15 ∧ i = .int .i64 k ∧ (k = 0 ∨ lasts.getD (k - 1) 0 < o)) (fun i => 15 - (intOf i).toNat)
  case atStart => exact ⟨0, by omega, rfl, Or.inl rfl⟩
  case round =>
    obtain ⟨k, hk, rfl, hp⟩ := hrel
    have HP := Lib.hid hp
    clear hp
    by_cases hlt : k < 15
    · have hL := tbl_at k hlt w
      by_cases hle : o ≤ lasts.getD k 0
      · have HK := Lib.hid (kind_at o k hlt hle HP.out)
        generalize lasts.getD k 0 = l at *
        go_wp2_with fail
        go_ret
        exact ⟨ret_int HK.out.symm, rfl⟩
      · have HL := Lib.hid (show lasts.getD (k + 1 - 1) 0 < o by rw [Nat.add_sub_cancel]; omega)
        have hgt : lasts.getD k 0 < o := by omega
        generalize lasts.getD k 0 = l at *
        go_wp2_with fail
        go_round
        case rel => exact ⟨k + 1, by omega, by go_num, Or.inr HL.out⟩
        case measure => simp [intOf]; omega
    · obtain rfl : k = 15 := by omega
      have HK := Lib.hid (kind_none o (by rcases HP.out with h | h; exact absurd h (by decide); exact h))
      go_wp2_with fail
      go_ret
      exact ⟨ret_int HK.out.symm, rfl⟩
end Go.Proofs.YtdcihcmhmgeheaaDoor
