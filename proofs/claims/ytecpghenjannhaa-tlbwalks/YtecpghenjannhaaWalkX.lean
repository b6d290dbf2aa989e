/-
  Plain mathematics of layer 11, on: which entries end a walk.
  Conditions: none; nothing here speaks of the program.
-/
import Derived.Test.YtecpghenjannhaaWalkV
namespace Go.Proofs.Ytecpghenjannhaa.K
open Go Go.RowKit W D A P M
set_option linter.unusedVariables false
theorem leaf_table (e : Int) (h : leafV e = true) : tableV e = false := by
  unfold leafV at h
  unfold tableV
  cases h2 : bt e 2 <;> cases h8 : bt e 8 <;> simp_all
theorem not_leaf_may (e kind priv st : Int) (h : leafV e = false) : mayV e kind priv st = false := by
  unfold mayV
  rw [h]
  simp
theorem may_leaf {e kind priv st : Int} (h : mayV e kind priv st = true) : leafV e = true := by
  cases hl : leafV e
  · rw [not_leaf_may e kind priv st hl] at h; exact absurd h (by simp)
  · rfl
/-- Without a fault there is no cause; beside one there is no leaf. -/
def Calm (r : Wr) : Prop := (r.isf = false → r.cause = 0 ∧ r.val = 0) ∧ (r.isf = true → r.pte = 0 ∧ r.lvl = 0 ∧ r.glob = false)
theorem calm_fault (c va : Int) : Calm (faultV c va) := ⟨fun h => absurd h (by simp [faultV]), fun _ => ⟨rfl, rfl, rfl⟩⟩
theorem calm_found (e l : Int) (g : Bool) : Calm (foundV e l g) := ⟨fun _ => ⟨rfl, rfl⟩, fun h => absurd h (by simp [foundV])⟩
theorem calm_down (bs : List Int) (va kind priv st : Int) : ∀ (n : Nat) (page : Int) (g : Bool), Calm (downV bs va kind priv st n page g)
  | 0, _, _ => calm_fault _ _
  | n + 1, page, g => by
    unfold downV
    split
    · exact calm_fault _ _
    · split
      · exact calm_down bs va kind priv st n _ _
      · split
        · exact calm_found _ _ _
        · exact calm_fault _ _
theorem calm_walk (bs : List Int) (sa st priv kind va : Int) : Calm (walkV bs sa st priv kind va) := by
  unfold walkV
  split
  · split
    · exact calm_down _ _ _ _ _ _ _ _
    · exact calm_fault _ _
  · exact calm_found _ _ _
end Go.Proofs.Ytecpghenjannhaa.K
