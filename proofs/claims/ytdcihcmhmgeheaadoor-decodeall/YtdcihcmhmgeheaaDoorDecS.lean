/-
  The document's example, as the head of layer 4's statements has it: it answers true.
  Conditions: none.
-/
import Derived.Test.YtdcihcmhmgeheaaDoorDecN
namespace Go.Proofs.YtdcihcmhmgeheaaDoor
open Go Go.RowKit F W M D
set_option linter.unusedVariables false

theorem word_sample : D.wordV 10814739 = (22, 10, 10, 0, 10) := by decide +kernel
theorem word_mret : D.wordV 807403635 = (0, 0, 0, 0, 0) := by decide +kernel
theorem word_zero : D.wordV 0 = (0, 0, 0, 0, 0) := by decide +kernel
theorem word_ones : D.wordV 4294967295 = (0, 0, 0, 0, 0) := by decide +kernel
set_option maxHeartbeats 400000 in
theorem shown04_c (w : World) : Calls Tryd.prog 7 #[] w fun e w' => e = .returned (.bool true) ∧ w.grownBy w' none := by
  go_enter Tryd.func7, Tryd.ntmps7
  go_wp2_with fail
  refine (Word_at (x := 10814739) (by omega) word_sample _).mono ?_
  rintro e w1 ⟨rfl, hG⟩
  go_wp2_with fail
  go_ret
  exact ⟨rfl, hG⟩
/-- The op of an instruction that is no variable. -/
theorem fld0 (a b c d e f : Value) (w : World) : (Instr.field 25 (.agg #[a, b, c, d, e, f]) 0).run Tryd.prog w = .ok a w := by kernel_rfl
end Go.Proofs.YtdcihcmhmgeheaaDoor
