/-
  The document's example, as the head of layer 14's statements has it: it answers true.
  Conditions: none beyond the translation.
-/
import Derived.Test.YtkfmcbhoendocaaDoorTrE
namespace Go.Proofs.YtkfmcbhoendocaaDoor
open Go Go.RowKit Go.Maps W M D A C J
set_option linter.unusedVariables false

theorem hand_276 : handV 257 true 5 = 276 := by decide +kernel
theorem exC : C.Good [0, 0, 257, 0, 0, 0, 0, 0, 0, 0, 0, 0] := ⟨rfl, by decide⟩
set_option maxHeartbeats 1000000 in
theorem shown14_c (w : World) : Calls Tryd.prog 6 #[] w fun e w' => e = .returned (.bool true) ∧ w.grownBy w' none := by
  have E := Lib.hid (fun W => Enter_c [0, 0, 257, 0, 0, 0, 0, 0, 0, 0, 0, 0] exC 1 0 true 5 0 (by decide) (by decide) (by decide) (by decide) W)
  have HC := enter_good exC 1 (pc := 0) (by decide) true 5 (v := 0) (by decide)
  rw [show gC [0, 0, 257, 0, 0, 0, 0, 0, 0, 0, 0, 0] 2 = 257 from rfl, hand_276] at E
  generalize enterV [0, 0, 257, 0, 0, 0, 0, 0, 0, 0, 0, 0] 1 0 true 5 0 = c at *
  obtain ⟨l0, l1, l2, l3, l4, l5, l6, l7, l8, l9, l10, l11, rfl⟩ := twelve HC.1
  unfold vCT at E
  rw [vC_12, vC_12] at E
  clear HC
  go_enter Tryd.func6, Tryd.ntmps6
  go_wp2_with fail
  refine (E.out _).mono ?_
  rintro e w1 ⟨rfl, hG⟩
  go_wp2_with fail
  go_ret
  exact ⟨rfl, gr_alloc hG _⟩
end Go.Proofs.YtkfmcbhoendocaaDoor
