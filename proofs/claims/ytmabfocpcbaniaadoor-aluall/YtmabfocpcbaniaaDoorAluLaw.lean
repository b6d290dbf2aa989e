/-
  The document's example, as the head of layer 7's statements has it: it answers true.
  Conditions: the table of package decode's kinds holds what its text lays.
-/
import Derived.Test.YtmabfocpcbaniaaDoorAluD
import Derived.Test.YtmabfocpcbaniaaDoorAluN
namespace Go.Proofs.YtmabfocpcbaniaaDoor
open Go Go.RowKit W M D A
set_option linter.unusedVariables false

set_option maxHeartbeats 400000 in
theorem shown07_c (w : World) (h : Tbl w) : Calls Tryd.prog 8 #[] w fun e w' => e = .returned (.bool true) ∧ w.grownBy w' none := by
  have e1 : doV 45 2147483647 1 = 18446744071562067968 := by rw [do_45]; decide +kernel
  have HT := Lib.hid h
  clear h
  go_enter Tryd.func8, Tryd.ntmps8
  go_wp2_with fail
  refine (Do_c 45 2147483647 1 (by decide) (by unfold B64; omega) (by unfold B64; omega) _ HT.out).mono ?_
  rintro e w' ⟨rfl, hG⟩
  rw [e1]
  have HG := Lib.hid hG
  clear hG
  go_wp2_with fail
  go_ret
  exact ⟨rfl, HG.out⟩
end Go.Proofs.YtmabfocpcbaniaaDoor
