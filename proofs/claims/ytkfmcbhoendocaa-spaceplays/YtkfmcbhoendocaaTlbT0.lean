/-
  What To answers, case by case: plain mathematics of layer 12.
  Conditions: none; nothing here speaks of the program.
-/
import Derived.Test.YtkfmcbhoendocaaTlbV
import Derived.Test.YtkfmcbhoendocaaLayK
namespace Go.Proofs.Ytkfmcbhoendocaa.T
open Go Go.RowKit W D A P M K
set_option linter.unusedVariables false
section
variable {bs : List Int} {L : List Lf} {n sa st priv kind va : Int} {most : Nat}
theorem to_un (h : pagedV sa = false) : toRV bs L sa st priv kind va = va ∧ toFV bs L sa st priv kind va = foundV 0 0 false ∧ toLV bs most L sa st priv kind va = L ∧ toNV L n sa st priv kind va = n := by
  have hh : hitV L sa st priv kind va = none := by unfold hitV; rw [h]; rfl
  have hm : missedV L sa st priv kind va = false := by unfold missedV; rw [h]; rfl
  unfold toRV toFV toLV toNV
  rw [hh, hm]
  simp only
  refine ⟨?_, ?_, ?_, ?_⟩
  · unfold toV; rw [h, if_neg (by simp)]
  · unfold walkV; rw [h, if_neg (by simp)]
  · rw [if_neg (by simp)]
  · rw [if_neg (by simp)]
theorem to_nc (h : pagedV sa = true) (hc : canonV va = false) : toRV bs L sa st priv kind va = 0 ∧ toFV bs L sa st priv kind va = faultV (pfC kind) va ∧ toLV bs most L sa st priv kind va = L ∧ toNV L n sa st priv kind va = n := by
  have hh : hitV L sa st priv kind va = none := by unfold hitV; rw [hc, Bool.and_false, if_neg (by simp)]
  have hm : missedV L sa st priv kind va = false := by unfold missedV; rw [hc, Bool.and_false]; rfl
  have hw : walkV bs sa st priv kind va = faultV (pfC kind) va := by unfold walkV; rw [h, if_pos rfl, hc, if_neg (by simp)]
  unfold toRV toFV toLV toNV
  rw [hh, hm]
  simp only
  refine ⟨?_, hw, ?_, ?_⟩
  · unfold toV; rw [h, if_pos rfl, hw]; rfl
  · rw [if_neg (by simp)]
  · rw [if_neg (by simp)]
theorem hit_eq (h : pagedV sa = true) (hc : canonV va = true) : hitV L sa st priv kind va = (findT L va (asidV sa)).filter fun k => mayV k.pte kind priv st := by
  unfold hitV; rw [h, hc]; rfl
theorem to_hit {k : Lf} (h : pagedV sa = true) (hc : canonV va = true) (hf : findT L va (asidV sa) = some k) (hm : mayV k.pte kind priv st = true) :
    toRV bs L sa st priv kind va = atV k.pte va k.lev ∧ toFV bs L sa st priv kind va = foundV 0 0 false ∧ toLV bs most L sa st priv kind va = L ∧ toNV L n sa st priv kind va = n := by
  have hh : hitV L sa st priv kind va = some k := by rw [hit_eq h hc, hf]; simp [Option.filter, hm]
  have hm : missedV L sa st priv kind va = false := by unfold missedV; rw [hh]; simp
  unfold toRV toFV toLV toNV
  rw [hh, hm]
  simp only
  exact ⟨trivial, trivial, by rw [if_neg (by simp)], by rw [if_neg (by simp)]⟩
theorem hit_none (h : pagedV sa = true) (hc : canonV va = true) (hf : ∀ k, findT L va (asidV sa) = some k → mayV k.pte kind priv st = false) : hitV L sa st priv kind va = none := by
  rw [hit_eq h hc]
  cases hq : findT L va (asidV sa) with
  | none => rfl
  | some k => simp [Option.filter, hf k hq]
theorem to_mf (h : pagedV sa = true) (hc : canonV va = true) (hh : hitV L sa st priv kind va = none) (hi : (walkV bs sa st priv kind va).isf = true) :
    toRV bs L sa st priv kind va = 0 ∧ toFV bs L sa st priv kind va = walkV bs sa st priv kind va ∧ toLV bs most L sa st priv kind va = L ∧ toNV L n sa st priv kind va = missT n := by
  have hm : missedV L sa st priv kind va = true := by unfold missedV; rw [h, hc, hh]; rfl
  unfold toRV toFV toLV toNV
  rw [hh, hm, hi]
  simp only
  refine ⟨?_, trivial, ?_, ?_⟩
  · unfold toV; rw [h, if_pos rfl, hi, if_pos rfl]
  · rw [if_neg (by simp)]
  · rw [if_pos trivial]
theorem to_m (h : pagedV sa = true) (hc : canonV va = true) (hh : hitV L sa st priv kind va = none) (hi : (walkV bs sa st priv kind va).isf = false) :
    toRV bs L sa st priv kind va = atV (walkV bs sa st priv kind va).pte va (walkV bs sa st priv kind va).lvl ∧ toFV bs L sa st priv kind va = walkV bs sa st priv kind va ∧ toLV bs most L sa st priv kind va = putT most L (lfV (walkV bs sa st priv kind va) va (asidV sa)) ∧ toNV L n sa st priv kind va = missT n := by
  have hm : missedV L sa st priv kind va = true := by unfold missedV; rw [h, hc, hh]; rfl
  unfold toRV toFV toLV toNV
  rw [hh, hm, hi]
  simp only
  refine ⟨?_, trivial, ?_, ?_⟩
  · unfold toV; rw [h, if_pos rfl, hi, if_neg (by simp)]
  · rw [if_pos (by simp)]
  · rw [if_pos trivial]
theorem lf_fine (hb : Byt bs) (hv : B64 va) (hs : B64 sa) : Fine (lfV (walkV bs sa st priv kind va) va (asidV sa)) := by
  obtain ⟨f0, f1, f2, -⟩ := fits_walk hb (sa := sa) (st := st) (priv := priv) (kind := kind) hv
  exact ⟨hv, by unfold lfV asidV B64 at *; simp only; omega, f0, f1, f2⟩
theorem to_64 (hb : Byt bs) (hv : B64 va) (hL : ∀ k ∈ L, Fine k) : B64 (toRV bs L sa st priv kind va) := by
  unfold toRV
  cases h : hitV L sa st priv kind va with
  | some k => exact at_64 (hL k (hit_mem h).1).2.2.1 hv
  | none =>
    simp only
    unfold toV
    split
    · split
      · unfold B64; omega
      · exact at_64 (fits_walk hb hv).1 hv
    · exact hv
end
end Go.Proofs.Ytkfmcbhoendocaa.T
