/-
  Plain mathematics of layer 17 (base), on: how often a number stands among the first so many extensions.
  Conditions: none.
-/
import Derived.Test.YtajamfnadnonoaaDoorBaseC
namespace Go.Proofs.YtajamfnadnonoaaDoor.Bs
open Go

/-- How often a number stands among the first so many extensions. -/
def timesV (x : Int) (i : Nat) : Nat := (exts.take i).count x
theorem times_zero (x : Int) : timesV x 0 = 0 := by simp [timesV]
theorem times_le (x : Int) : ∀ i, i ≤ 8 → timesV x i ≤ i := by
  intro i hi
  unfold timesV
  exact Nat.le_trans List.count_le_length (by rw [List.length_take]; omega)
theorem times_take {x : Int} {i : Nat} (hi : i < 8) : timesV x (i + 1) = timesV x i + if exts.getD i 0 = x then 1 else 0 := by
  have hl : i < exts.length := hi
  unfold timesV
  rw [List.take_add_one, List.count_append, List.getD_eq_getElem?_getD, List.getElem?_eq_getElem hl]
  simp only [Option.toList, Option.getD_some, List.count_singleton, beq_iff_eq]
theorem times_all (x : Int) : timesV x 8 = if knownV x = true then 1 else 0 := by
  unfold timesV knownV
  rw [show exts.take 8 = exts from rfl]
  by_cases h : x ∈ exts
  · rw [if_pos (by simpa using h)]
    have : ∀ y, y ∈ exts → exts.count y = 1 := by decide
    exact this x h
  · rw [if_neg (by simpa using h)]
    exact List.count_eq_zero_of_not_mem h
theorem known_i {i : Nat} (hi : i < 8) : knownV (exts.getD i 0) = true := known_at hi rfl
theorem toList_nil {s : ByteArray} : s.toList = [] ↔ s = ⟨#[]⟩ := by
  rw [ByteArray.toList_eq]
  constructor
  · intro h
    apply ByteArray.ext
    exact Array.toList_eq_nil_iff.1 h
  · intro h; rw [h]
theorem toList_same {s t : ByteArray} : s.toList = t.toList ↔ s = t := by
  rw [ByteArray.toList_eq, ByteArray.toList_eq]
  constructor
  · intro h
    apply ByteArray.ext
    exact Array.ext' h
  · intro h; rw [h]
theorem all_at {i : Nat} (hi : i < 8) : allL[i]? = some (.int .u64 (exts.getD i 0)) := by
  have hc : i = 0 ∨ i = 1 ∨ i = 2 ∨ i = 3 ∨ i = 4 ∨ i = 5 ∨ i = 6 ∨ i = 7 := by omega
  rcases hc with rfl | rfl | rfl | rfl | rfl | rfl | rfl | rfl <;> rfl
end Go.Proofs.YtajamfnadnonoaaDoor.Bs
