/-
  Leaves put one after the other: plain mathematics of layer 12.
  Conditions: none; nothing here speaks of the program.
-/
import Derived.Test.YtkfmcbhoendocaaTlbV
namespace Go.Proofs.Ytkfmcbhoendocaa.T
open Go Go.RowKit W D A P M
set_option linter.unusedVariables false

def bitZ (b : Int) (i : Nat) : Int := b / 2 ^ i % 2
def lfZ (f : Nat → Int) (b : Int) (i : Nat) : Lf := ⟨f i, bitZ b i, i, 0, decide (bitZ b (20 + i) = 1)⟩
def rowZ (f : Nat → Int) (b : Int) (n j : Nat) : List Lf := ((List.range j).map (lfZ f b)).drop (j - n)
theorem row_length (f : Nat → Int) (b : Int) (n j : Nat) : (rowZ f b n j).length = min n j := by unfold rowZ; simp; omega
theorem row_zero (f : Nat → Int) (b : Int) (n : Nat) : rowZ f b n 0 = [] := by unfold rowZ; simp
theorem row_next (f : Nat → Int) (b : Int) (n j : Nat) : putT n (rowZ f b n j) (lfZ f b j) = rowZ f b n (j + 1) := by
  unfold putT
  by_cases h : n = 0
  · subst h
    rw [if_pos rfl]
    unfold rowZ
    rw [List.drop_eq_nil_of_le (by simp), List.drop_eq_nil_of_le (by simp)]
  · rw [if_neg h, row_length]
    have hr : ((List.range (j + 1)).map (lfZ f b)) = (List.range j).map (lfZ f b) ++ [lfZ f b j] := by rw [List.range_succ, List.map_append]; rfl
    by_cases h2 : min n j = n
    · rw [if_pos h2]
      unfold rowZ
      rw [hr, List.drop_append_of_le_length (by simp; omega), ← List.drop_one, List.drop_drop]
      congr 2
      omega
    · rw [if_neg h2]
      unfold rowZ
      rw [hr, List.drop_append_of_le_length (by simp; omega)]
      congr 2
      omega
theorem row_mem {f : Nat → Int} {b : Int} {n j : Nat} {k : Lf} (h : k ∈ rowZ f b n j) : ∃ q, j - n ≤ q ∧ q < j ∧ k = lfZ f b q := by
  unfold rowZ at h
  obtain ⟨i, hi, he⟩ := List.mem_iff_getElem.1 h
  simp only [List.length_drop, List.length_map, List.length_range] at hi
  rw [List.getElem_drop, List.getElem_map, List.getElem_range] at he
  exact ⟨j - n + i, by omega, by omega, he.symm⟩
theorem mem_row {f : Nat → Int} {b : Int} {n j q : Nat} (h1 : j - n ≤ q) (h2 : q < j) : lfZ f b q ∈ rowZ f b n j := by
  unfold rowZ
  refine List.mem_iff_getElem.2 ⟨q - (j - n), by simp; omega, ?_⟩
  rw [List.getElem_drop, List.getElem_map, List.getElem_range]
  congr 1
  omega
theorem cov_Z (f : Nat → Int) (b : Int) (q : Nat) (a : Int) : covT (lfZ f b q) a = decide (f q / 4096 = a / 4096) := rfl
theorem find_Z {f : Nat → Int} {b : Int} {n j i : Nat} (hi : i < j) :
    (findT (rowZ f b n j) (f i) (bitZ b i) = none ∧ i < j - n) ∨ ∃ q, findT (rowZ f b n j) (f i) (bitZ b i) = some (lfZ f b q) ∧ j - n ≤ q ∧ q < j ∧ f q / 4096 = f i / 4096 ∧ (decide (bitZ b (20 + q) = 1) = false → bitZ b q = bitZ b i) := by
  cases h : findT (rowZ f b n j) (f i) (bitZ b i) with
  | none =>
    left
    refine ⟨rfl, ?_⟩
    rcases Nat.lt_or_ge i (j - n) with h1 | h1
    · exact h1
    · exfalso
      unfold findT at h
      rw [List.find?_eq_none] at h
      have := h _ (mem_row h1 hi)
      unfold keyT at this
      rw [cov_Z] at this
      simp [lfZ] at this
  | some k =>
    right
    have hm := List.mem_of_find?_eq_some h
    have hk := List.find?_some h
    obtain ⟨q, h1, h2, rfl⟩ := row_mem hm
    unfold keyT at hk
    rw [cov_Z, Bool.and_eq_true] at hk
    refine ⟨q, rfl, h1, h2, by simpa using hk.1, fun hg => ?_⟩
    have h2 := hk.2
    rw [show (lfZ f b q).glob = decide (bitZ b (20 + q) = 1) from rfl, hg, Bool.false_or] at h2
    exact of_decide_eq_true h2
theorem bit_bd (b : Int) (i : Nat) : 0 ≤ bitZ b i ∧ bitZ b i ≤ 1 := by unfold bitZ; omega
theorem lfZ_fine {f : Nat → Int} {b : Int} {i : Nat} (hf : B64 (f i)) (hi : i < 20) : Fine (lfZ f b i) := by
  have := bit_bd b i
  exact ⟨hf, by unfold lfZ B64; simp only; omega, by unfold lfZ B64; simp only; omega, by unfold lfZ; simp, by unfold lfZ; simp⟩
theorem and_one {x : Int} (hx : B64 x) : bits .and .u64 x 1 = x % 2 := by
  have := one_bit 0 1 rfl (by omega) x hx
  rw [this]
  omega
theorem and_31 (q : Nat) (hq : q < 20) : bits .and .u64 (q : Int) 31 = q := by
  have h : ∀ q : Nat, q < 20 → bits .and .u64 (q : Int) 31 = q := by decide +kernel
  exact h q hq
end Go.Proofs.Ytkfmcbhoendocaa.T
