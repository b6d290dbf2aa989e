/-
  The document's example, as the head of layer 1's statements has it: it answers true. Laws of the plain functions of word that the statements need.
  Conditions: none.
-/
import Derived.Test.YtbcfncffgjaapaaWordC
namespace Go.Proofs.Ytbcfncffgjaapaa
open Go Go.RowKit W
set_option linter.unusedVariables false

set_option maxHeartbeats 400000 in
theorem shown01_c (w : World) : Calls Try.prog 9 #[] w fun e w' => e = .returned (.bool true) ∧ w = w' := by
  have e1 : divV 18446744073709551609 2 true = 18446744073709551613 := by decide +kernel
  have e2 : sextV 255 8 = 18446744073709551615 := by decide +kernel
  go_enter Try.func9, Try.ntmps9
  go_wp2_with fail
  refine (Div_c _ _ _ (by omega) (by omega) _).mono ?_
  rintro e w' ⟨rfl, rfl⟩
  rw [e1]
  go_wp2_with fail
  refine (Sext_c _ _ (by omega) (by omega) _).mono ?_
  rintro e w' ⟨rfl, rfl⟩
  rw [e2]
  go_wp2_with fail
  go_ret
  exact ⟨rfl, rfl⟩
end Go.Proofs.Ytbcfncffgjaapaa
