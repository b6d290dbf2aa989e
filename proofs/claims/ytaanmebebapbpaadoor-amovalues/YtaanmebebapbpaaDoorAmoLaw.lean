/-
  The document's example, as the head of layer 8's statements has it: it answers true.
  Conditions: the table of package decode's kinds holds what its text lays.
-/
import Derived.Test.YtaanmebebapbpaaDoorAmoT
import Derived.Test.YtaanmebebapbpaaDoorAmoP2
import Derived.Test.YtaanmebebapbpaaDoorAmoP3
namespace Go.Proofs.YtaanmebebapbpaaDoor
open Go Go.RowKit W M D A
set_option linter.unusedVariables false

theorem I64.of {h : Int} (a : -9223372036854775808 ≤ h) (b : h ≤ 9223372036854775807) : I64 h := ⟨a, b⟩
set_option maxHeartbeats 400000 in
theorem shown08_c (w : World) (h : Tbl w) : Calls Tryd.prog 9 #[] w fun e w' => e = .returned (.bool true) ∧ w.grownBy w' none := by
  have e1 : (if isH 0 = true then atS (setS st0 0 16) (0 : Int).toNat else 0) = 16 := by decide +kernel
  have e2 : (isH 0 && isS (setS st0 0 16) (0 : Int).toNat) = true := by decide +kernel
  have e3 : takeS (storedS (setS st0 0 16) 1 23 1) 0 16 = false := by decide +kernel
  have e4 : szV 88 = 8 := by decide +kernel
  have hl := h.lt
  have HT := Lib.hid h
  clear h
  go_enter Tryd.func9, Tryd.ntmps9
  go_wp2_with fail
  refine (Fresh_c _).mono ?_
  rintro e w1 ⟨rfl, hR1, hG1⟩
  go_wp2_with fail
  refine (Set_c _ _ 0 16 (by decide) (by unfold B64; omega) _ hR1).mono ?_
  rintro e w2 ⟨rfl, hR2, hG2⟩
  go_wp2_with fail
  refine (Has_c _ _ 0 (by decide) _ hR2).mono ?_
  rw [e1, e2]
  rintro e w3 ⟨rfl, hG3⟩
  go_wp2_with fail
  refine (Stored_c _ _ 1 23 1 (by decide) (by unfold B64; omega) (by decide) _ (hR2.kept hG3)).mono ?_
  rintro e w4 ⟨rfl, hR4, hG4⟩
  go_wp2_with fail
  refine (Take_c _ _ 0 16 (by decide) (by unfold B64; omega) _ hR4).mono ?_
  rw [e3]
  rintro e w5 ⟨rfl, hR5, hG5⟩
  have hG : w.grownBy w5 (some w.heap.size) := gr_trans (gr_trans (gr_trans (gr_trans (gr_none hG1 _) hG2) (gr_none hG3 _)) hG4) hG5
  have hG' := gr_row hG (Nat.le_refl _)
  have HT5 := Lib.hid (HT.out.grown hG')
  have HG := Lib.hid hG'
  clear hG1 hG2 hG3 hG4 hG5 hR1 hR2 hR4 hR5 hG hG'
  go_wp2_with fail
  refine (Size_c 88 (by decide) _ HT5.out).mono ?_
  rw [e4]
  rintro e w6 ⟨rfl, rfl⟩
  go_wp2_with fail
  go_ret
  exact ⟨rfl, HG.out⟩
end Go.Proofs.YtaanmebebapbpaaDoor
