/-
  What a flush leaves: plain mathematics of layer 12.
  Conditions: none; nothing here speaks of the program.
-/
import Derived.Test.YtkfmcbhoendocaaTlbT0
namespace Go.Proofs.Ytkfmcbhoendocaa.T
open Go Go.RowKit W D A P M K
set_option linter.unusedVariables false

/-- Behind a flush of an address what is found there is global, and the flush was of an asid. -/
theorem flush_found {L : List Lf} {va s : Int} {ev : Bool} {k : Lf} (h : findT (flushT L false va ev s) va s = some k) : ev = false ∧ k.glob = true := by
  have hm := List.mem_of_find?_eq_some h
  have hk := List.find?_some h
  have hd := (List.mem_filter.1 hm).2
  unfold keyT at hk
  unfold dropT at hd
  rw [Bool.and_eq_true] at hk
  rw [hk.1] at hd
  cases ev
  · refine ⟨rfl, ?_⟩
    cases hg : k.glob
    · exfalso
      have h2 := hk.2
      rw [hg, Bool.false_or] at h2
      rw [hg] at hd
      simp [of_decide_eq_true h2] at hd
    · rfl
  · simp at hd
theorem flush_all (L : List Lf) (va s : Int) : flushT L true va true s = [] := by
  unfold flushT dropT
  simp
theorem empty_hit (sa st priv kind va : Int) : hitV [] sa st priv kind va = none := by
  unfold hitV findT
  split <;> rfl
theorem empty_to (bs : List Int) (sa st priv kind va : Int) : toRV bs [] sa st priv kind va = toV bs sa st priv kind va ∧ toFV bs [] sa st priv kind va = walkV bs sa st priv kind va := by
  unfold toRV toFV
  rw [empty_hit]
  exact ⟨rfl, rfl⟩
end Go.Proofs.Ytkfmcbhoendocaa.T
