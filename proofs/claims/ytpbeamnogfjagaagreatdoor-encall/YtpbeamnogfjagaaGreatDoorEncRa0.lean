/-
  What the document's own base and number of layer 6 (package suzerainref06) are: contracts over the translation.
  Conditions: the arguments are numbers of their kinds.
-/
import Derived.Test.YtpbeamnogfjagaaGreatDoorEncM3
import Derived.Test.YtpbeamnogfjagaaGreatDoorDecR
import Derived.Test.YtpbeamnogfjagaaGreatDoorFieldR4
namespace Go.Proofs.YtpbeamnogfjagaaGreatDoor.refEnc
open Go Go.RowKit F W M D E refWord
set_option linter.unusedVariables false
set_option maxRecDepth 100000

def lowL : List Int := [0, 55, 23, 111, 103, 99, 4195, 16483, 20579, 24675, 28771, 3, 4099, 8195, 12291, 16387, 20483, 24579, 35, 4131, 8227, 12323, 19, 8211, 12307, 16403, 24595, 28691, 4115, 20499, 1073762323, 51, 1073741875, 4147, 8243, 12339, 16435, 20531, 1073762355, 24627, 28723, 27, 4123, 20507, 1073762331, 59, 1073741883, 4155, 20539, 1073762363, 33554483, 33558579, 33562675, 33566771, 33570867, 33574963, 33579059, 33583155, 33554491, 33570875, 33574971, 33579067, 33583163, 15, 4111, 115, 1048691, 270532723, 273678451, 301990003, 4211, 8307, 12403, 20595, 24691, 28787]
def fiveL : List Int := [2, 3, 1, 0, 4, 12, 8, 16, 20, 24, 28]
def uv (l : List Int) : List Value := l.map fun z => .int .u32 z
theorem low_at : ∀ k, k < 76 → (uv lowL)[k]? = some (.int .u32 (lowL.getD k 0)) := by
  intro k hk
  have : k < lowL.length := hk
  rw [uv, List.getElem?_map, List.getElem?_eq_getElem this, List.getD_eq_getElem?_getD, List.getElem?_eq_getElem this]; rfl
theorem five_at : ∀ k, k < 11 → (uv fiveL)[k]? = some (.int .u32 (fiveL.getD k 0)) := by
  intro k hk
  have : k < fiveL.length := hk
  rw [uv, List.getElem?_map, List.getElem?_eq_getElem this, List.getD_eq_getElem?_getD, List.getElem?_eq_getElem this]; rfl
theorem low_base : ∀ k, k < 76 → lowL.getD k 0 = (baseV k : Nat) := by decide +kernel
theorem five_base : ∀ k : Nat, k < 11 → (8239 + fiveL.getD k 0 * 134217728) = (baseV (76 + (k : Int)) : Nat) ∧ (12335 + fiveL.getD k 0 * 134217728) = (baseV (87 + (k : Int)) : Nat) ∧ 0 ≤ fiveL.getD k 0 ∧ fiveL.getD k 0 ≤ 28 := by decide +kernel
theorem cell_low (w : World) (k : Nat) (hk : k < 76) : (w.alloc (.cells #[.int .u32 0, .int .u32 55, .int .u32 23, .int .u32 111, .int .u32 103, .int .u32 99, .int .u32 4195, .int .u32 16483, .int .u32 20579, .int .u32 24675, .int .u32 28771, .int .u32 3, .int .u32 4099, .int .u32 8195, .int .u32 12291, .int .u32 16387, .int .u32 20483, .int .u32 24579, .int .u32 35, .int .u32 4131, .int .u32 8227, .int .u32 12323, .int .u32 19, .int .u32 8211, .int .u32 12307, .int .u32 16403, .int .u32 24595, .int .u32 28691, .int .u32 4115, .int .u32 20499, .int .u32 1073762323, .int .u32 51, .int .u32 1073741875, .int .u32 4147, .int .u32 8243, .int .u32 12339, .int .u32 16435, .int .u32 20531, .int .u32 1073762355, .int .u32 24627, .int .u32 28723, .int .u32 27, .int .u32 4123, .int .u32 20507, .int .u32 1073762331, .int .u32 59, .int .u32 1073741883, .int .u32 4155, .int .u32 20539, .int .u32 1073762363, .int .u32 33554483, .int .u32 33558579, .int .u32 33562675, .int .u32 33566771, .int .u32 33570867, .int .u32 33574963, .int .u32 33579059, .int .u32 33583155, .int .u32 33554491, .int .u32 33570875, .int .u32 33574971, .int .u32 33579067, .int .u32 33583163, .int .u32 15, .int .u32 4111, .int .u32 115, .int .u32 1048691, .int .u32 270532723, .int .u32 273678451, .int .u32 301990003, .int .u32 4211, .int .u32 8307, .int .u32 12403, .int .u32 20595, .int .u32 24691, .int .u32 28787] 25)).cell? ⟨w.heap.size, k, none⟩ = some (.int .u32 (lowL.getD k 0)) := by
  have h := (Row.fresh w 25 (uv lowL)).cell k
  rw [low_at k hk] at h
  exact h
theorem cell_five (w : World) (k : Nat) (hk : k < 11) : (w.alloc (.cells #[.int .u32 2, .int .u32 3, .int .u32 1, .int .u32 0, .int .u32 4, .int .u32 12, .int .u32 8, .int .u32 16, .int .u32 20, .int .u32 24, .int .u32 28] 25)).cell? ⟨w.heap.size, k, none⟩ = some (.int .u32 (fiveL.getD k 0)) := by
  have h := (Row.fresh w 25 (uv fiveL)).cell k
  rw [five_at k hk] at h
  exact h
end Go.Proofs.YtpbeamnogfjagaaGreatDoor.refEnc
