/-
  Plain mathematics of layer 17 (base): the extensions, whether one is there, what a call tells, the errors' names.
  Conditions: none.
-/
import Derived.Test.YtajamfnadnonoaaDoorProg
namespace Go.Proofs.YtajamfnadnonoaaDoor.Bs
open Go

def exts : List Int := [16, 1414090053, 7557193, 1380339267, 4739917, 1397904212, 1145193294, 5262677]
def knownV (x : Int) : Bool := decide (x ∈ exts)
def oneV (b : Bool) : Int := if b then 1 else 0
def callV (fn a0 : Int) : Int × Int :=
  if fn = 0 then (0, 33554432) else if fn = 1 then (0, 97) else if fn = 2 then (0, 1) else if fn = 3 then (0, oneV (knownV a0)) else if fn ≤ 6 then (0, 0) else (-2, 0)
theorem take_known {x : Int} {i : Nat} (hi : i < 8) (h : x ∉ exts.take i) (hx : x ≠ exts.getD i 0) : x ∉ exts.take (i + 1) := by
  rw [List.take_add_one, List.mem_append, not_or]
  refine ⟨h, fun hm => hx ?_⟩
  have hl : i < exts.length := hi
  rw [List.getElem?_eq_getElem hl] at hm
  simp only [Option.toList, List.mem_singleton] at hm
  rw [hm, List.getD_eq_getElem?_getD, List.getElem?_eq_getElem hl]; rfl
theorem known_at {x : Int} {i : Nat} (hi : i < 8) (hx : x = exts.getD i 0) : knownV x = true := by
  have hl : i < exts.length := hi
  unfold knownV
  rw [hx, List.getD_eq_getElem?_getD, List.getElem?_eq_getElem hl]
  exact decide_eq_true (List.getElem_mem hl)
theorem known_none {x : Int} (h : x ∉ exts.take 8) : knownV x = false := decide_eq_false h
theorem exts_bd {i : Nat} (hi : i < 8) : 0 ≤ exts.getD i 0 ∧ exts.getD i 0 < 18446744073709551616 := by
  revert i; decide

abbrev Bytes' := List UInt8
def namL : List Bytes' := [[111, 107], [102, 97, 105, 108, 101, 100], [110, 111, 116, 45, 115, 117, 112, 112, 111, 114, 116, 101, 100], [105, 110, 118, 97, 108, 105, 100, 45, 112, 97, 114, 97, 109], [100, 101, 110, 105, 101, 100], [105, 110, 118, 97, 108, 105, 100, 45, 97, 100, 100, 114, 101, 115, 115], [97, 108, 114, 101, 97, 100, 121, 45, 97, 118, 97, 105, 108, 97, 98, 108, 101], [97, 108, 114, 101, 97, 100, 121, 45, 115, 116, 97, 114, 116, 101, 100], [97, 108, 114, 101, 97, 100, 121, 45, 115, 116, 111, 112, 112, 101, 100]]
def bytesV (n : Int) : Bytes' := if 0 < n then [] else if n < -8 then [] else namL.getD (-n).toNat []
def nameV (n : Int) : ByteArray := ⟨(bytesV n).toArray⟩
theorem nam_inj : ∀ i, i < 9 → ∀ j, j < 9 → namL.getD i [] = namL.getD j [] → i = j := by decide
theorem nam_some : ∀ i, i < 9 → namL.getD i [] ≠ [] := by decide
theorem name_eq {a b : Int} : nameV a = nameV b ↔ bytesV a = bytesV b := by
  unfold nameV
  constructor
  · intro h
    injection h with h
    simpa using congrArg Array.toList h
  · intro h; rw [h]
theorem name_none {n : Int} : nameV n = ⟨#[]⟩ ↔ ¬ (n ≤ 0 ∧ -8 ≤ n) := by
  have e : nameV n = ⟨#[]⟩ ↔ bytesV n = [] := by
    unfold nameV
    constructor
    · intro h
      injection h with h
      simpa using congrArg Array.toList h
    · intro h; rw [h]
  rw [e]
  unfold bytesV
  by_cases h1 : 0 < n
  · rw [if_pos h1]; simp; omega
  · rw [if_neg h1]
    by_cases h2 : n < -8
    · rw [if_pos h2]; simp; omega
    · rw [if_neg h2]
      have := nam_some (-n).toNat (by omega)
      constructor
      · intro h; exact absurd h this
      · intro h; exact absurd ⟨by omega, by omega⟩ h
theorem name_same {a b : Int} (ha : a ≤ 0 ∧ -8 ≤ a) : nameV a = nameV b ↔ a = b := by
  constructor
  · intro h
    have hb : b ≤ 0 ∧ -8 ≤ b := by
      by_cases hb : b ≤ 0 ∧ -8 ≤ b
      · exact hb
      · rw [name_none.2 hb] at h
        exact absurd ha (name_none.1 h)
    have h := name_eq.1 h
    unfold bytesV at h
    rw [if_neg (by omega), if_neg (by omega), if_neg (by omega), if_neg (by omega)] at h
    have := nam_inj _ (by omega) _ (by omega) h
    omega
  · intro h; rw [h]
theorem call_three (x : Int) : callV 3 x = (0, oneV (knownV x)) := by unfold callV; simp
theorem call_more {fn a0 : Int} (h : 6 < fn) : callV fn a0 = (-2, 0) := by
  unfold callV
  rw [if_neg (by omega), if_neg (by omega), if_neg (by omega), if_neg (by omega), if_neg (by omega)]
end Go.Proofs.YtajamfnadnonoaaDoor.Bs
