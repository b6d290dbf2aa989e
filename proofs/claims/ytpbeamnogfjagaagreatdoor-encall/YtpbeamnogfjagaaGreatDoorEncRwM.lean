/-
  What the document's own number and Word of layer 6 (package suzerainref06) are: contracts over the translation.
  What the document's own base of layer 6 (package suzerainref06) is: contracts over the translation.
  What the document's own Word of layer 6 (package suzerainref06) is: it answers as the program's: contracts over the translation.
  Conditions: each part's own: the arguments are numbers of their kinds; the tables hold what the program's text lays.
-/
import Derived.Test.YtpbeamnogfjagaaGreatDoorEncM3
import Derived.Test.YtpbeamnogfjagaaGreatDoorDecR
import Derived.Test.YtpbeamnogfjagaaGreatDoorFieldR4
import Derived.Test.YtpbeamnogfjagaaGreatDoorEncRaM
import Derived.Test.YtpbeamnogfjagaaGreatDoorEncRan
import Derived.Deep.QuietTactic
import Derived.BigQuiet
section
namespace Go.Proofs.YtpbeamnogfjagaaGreatDoor.refEnc
open Go Go.RowKit F W M D E refWord
set_option linter.unusedVariables false
set_option maxRecDepth 100000

/-- The bits of a number, as the document lays them. -/
def numR (o im : Int) : Nat := if (28 ≤ o ∧ o ≤ 30) ∨ (42 ≤ o ∧ o ≤ 44) then (im % 64).toNat * 1048576 else if 70 ≤ o ∧ o ≤ 75 then (im % 4096).toNat * 1048576 else layV im (fmtV o)
theorem numR_lt (o im : Int) : numR o im < 4294967296 := by
  unfold numR
  split
  · omega
  · split
    · omega
    · exact layV_lt _ _
theorem tm64 (im : Int) : (IntKind.u64.wrap im).tmod 64 = im % 64 := by
  rw [IntKind.wrap_u64, Int.tmod_eq_emod_of_nonneg (Int.emod_nonneg _ (by decide))]; omega
theorem tm4096 (im : Int) : (IntKind.u64.wrap im).tmod 4096 = im % 4096 := by
  rw [IntKind.wrap_u64, Int.tmod_eq_emod_of_nonneg (Int.emod_nonneg _ (by decide))]; omega
theorem numR_lay (o im : Int) (h : ¬ ((28 ≤ o ∧ o ≤ 30) ∨ (42 ≤ o ∧ o ≤ 44))) (h2 : ¬ (70 ≤ o ∧ o ≤ 75)) : numR o im = layV im (fmtV o) := by
  unfold numR; rw [if_neg h, if_neg h2]
set_option maxHeartbeats 1000000 in
theorem num0_c (o rd rs1 rs2 im n : Int) (ho : I64 o) (hi : I64 im) (k : o ≤ 0) (w : World) :
    Calls Tryz.prog 21 #[E.six o rd rs1 rs2 im n] w fun e w' => e = .returned (.int .u32 (numR o im : Nat)) ∧ w.grownBy w' none := by
  have HK := Lib.hid (show kindV o = 0 from kind0 k)
  have hR := Row.fresh w 23 [.int .i64 o, .int .i64 rd, .int .i64 rs1, .int .i64 rs2, .int .i64 im, .int .i64 n]
  have c0 := hR.cell 0
  simp only [List.getElem?_cons_zero] at c0
  rw [numR_lay o im (by omega) (by omega), fmt0 k]
  have HLy := Lib.hid (fun W => rLay_c im 0 hi (by decide) W)
  generalize layV im 0 = lv at *
  generalize layB im 0 = lb at *
  go_enter Tryz.func21, Tryz.ntmps21
  go_wp2_with fail
  refine (rKind_c o ho _).mono ?_
  rintro e w1 ⟨rfl, hG1⟩
  rw [HK.out]
  have hR1 := hR.grown hG1 (by simp)
  have hG2 := gr_trans (gr_alloc (gr_refl w none) (.cells #[.int .i64 o, .int .i64 rd, .int .i64 rs1, .int .i64 rs2, .int .i64 im, .int .i64 n] 23)) hG1
  clear c0 hR hG1
  have c0 := hR1.cell 0
  have c4 := hR1.cell 4
  simp only [List.getElem?_cons_zero, List.getElem?_cons_succ] at c0 c4
  clear hR1
  go_wp2_with fail
  refine (HLy.out _).mono ?_
  rintro e w3 ⟨rfl, hG3⟩
  go_wp2_with fail
  go_ret
  exact ⟨rfl, gr_trans hG2 hG3⟩
set_option maxHeartbeats 1000000 in
theorem num1_c (o rd rs1 rs2 im n : Int) (ho : I64 o) (hi : I64 im) (k : o = 1) (w : World) :
    Calls Tryz.prog 21 #[E.six o rd rs1 rs2 im n] w fun e w' => e = .returned (.int .u32 (numR o im : Nat)) ∧ w.grownBy w' none := by
  have HK := Lib.hid (show kindV o = 1 from kind1 (by omega))
  have hR := Row.fresh w 23 [.int .i64 o, .int .i64 rd, .int .i64 rs1, .int .i64 rs2, .int .i64 im, .int .i64 n]
  have c0 := hR.cell 0
  simp only [List.getElem?_cons_zero] at c0
  rw [numR_lay o im (by omega) (by omega), fmt1 (by omega)]
  have HLy := Lib.hid (fun W => rLay_c im 4 hi (by decide) W)
  generalize layV im 4 = lv at *
  generalize layB im 4 = lb at *
  subst k
  go_enter Tryz.func21, Tryz.ntmps21
  go_wp2_with fail
  refine (rKind_c 1 (by decide) _).mono ?_
  rintro e w1 ⟨rfl, hG1⟩
  rw [HK.out]
  have hR1 := hR.grown hG1 (by simp)
  have hG2 := gr_trans (gr_alloc (gr_refl w none) (.cells #[.int .i64 1, .int .i64 rd, .int .i64 rs1, .int .i64 rs2, .int .i64 im, .int .i64 n] 23)) hG1
  clear c0 hR hG1
  have c0 := hR1.cell 0
  have c4 := hR1.cell 4
  simp only [List.getElem?_cons_zero, List.getElem?_cons_succ] at c0 c4
  clear hR1
  go_wp2_with fail
  refine (HLy.out _).mono ?_
  rintro e w3 ⟨rfl, hG3⟩
  go_wp2_with fail
  go_ret
  exact ⟨rfl, gr_trans hG2 hG3⟩
set_option maxHeartbeats 1000000 in
theorem num2_c (o rd rs1 rs2 im n : Int) (ho : I64 o) (hi : I64 im) (k : o = 2) (w : World) :
    Calls Tryz.prog 21 #[E.six o rd rs1 rs2 im n] w fun e w' => e = .returned (.int .u32 (numR o im : Nat)) ∧ w.grownBy w' none := by
  have HK := Lib.hid (show kindV o = 1 from kind1 (by omega))
  have hR := Row.fresh w 23 [.int .i64 o, .int .i64 rd, .int .i64 rs1, .int .i64 rs2, .int .i64 im, .int .i64 n]
  have c0 := hR.cell 0
  simp only [List.getElem?_cons_zero] at c0
  rw [numR_lay o im (by omega) (by omega), fmt1 (by omega)]
  have HLy := Lib.hid (fun W => rLay_c im 4 hi (by decide) W)
  generalize layV im 4 = lv at *
  generalize layB im 4 = lb at *
  subst k
  go_enter Tryz.func21, Tryz.ntmps21
  go_wp2_with fail
  refine (rKind_c 2 (by decide) _).mono ?_
  rintro e w1 ⟨rfl, hG1⟩
  rw [HK.out]
  have hR1 := hR.grown hG1 (by simp)
  have hG2 := gr_trans (gr_alloc (gr_refl w none) (.cells #[.int .i64 2, .int .i64 rd, .int .i64 rs1, .int .i64 rs2, .int .i64 im, .int .i64 n] 23)) hG1
  clear c0 hR hG1
  have c0 := hR1.cell 0
  have c4 := hR1.cell 4
  simp only [List.getElem?_cons_zero, List.getElem?_cons_succ] at c0 c4
  clear hR1
  go_wp2_with fail
  refine (HLy.out _).mono ?_
  rintro e w3 ⟨rfl, hG3⟩
  go_wp2_with fail
  go_ret
  exact ⟨rfl, gr_trans hG2 hG3⟩
set_option maxHeartbeats 1000000 in
theorem num3_c (o rd rs1 rs2 im n : Int) (ho : I64 o) (hi : I64 im) (k : o = 3) (w : World) :
    Calls Tryz.prog 21 #[E.six o rd rs1 rs2 im n] w fun e w' => e = .returned (.int .u32 (numR o im : Nat)) ∧ w.grownBy w' none := by
  have HK := Lib.hid (show kindV o = 1 from kind1 (by omega))
  have hR := Row.fresh w 23 [.int .i64 o, .int .i64 rd, .int .i64 rs1, .int .i64 rs2, .int .i64 im, .int .i64 n]
  have c0 := hR.cell 0
  simp only [List.getElem?_cons_zero] at c0
  rw [numR_lay o im (by omega) (by omega), fmt2 (by omega)]
  have HLy := Lib.hid (fun W => rLay_c im 5 hi (by decide) W)
  generalize layV im 5 = lv at *
  generalize layB im 5 = lb at *
  subst k
  go_enter Tryz.func21, Tryz.ntmps21
  go_wp2_with fail
  refine (rKind_c 3 (by decide) _).mono ?_
  rintro e w1 ⟨rfl, hG1⟩
  rw [HK.out]
  have hR1 := hR.grown hG1 (by simp)
  have hG2 := gr_trans (gr_alloc (gr_refl w none) (.cells #[.int .i64 3, .int .i64 rd, .int .i64 rs1, .int .i64 rs2, .int .i64 im, .int .i64 n] 23)) hG1
  clear c0 hR hG1
  have c0 := hR1.cell 0
  have c4 := hR1.cell 4
  simp only [List.getElem?_cons_zero, List.getElem?_cons_succ] at c0 c4
  clear hR1
  go_wp2_with fail
  refine (HLy.out _).mono ?_
  rintro e w3 ⟨rfl, hG3⟩
  go_wp2_with fail
  go_ret
  exact ⟨rfl, gr_trans hG2 hG3⟩
set_option maxHeartbeats 1000000 in
theorem num4_c (o rd rs1 rs2 im n : Int) (ho : I64 o) (hi : I64 im) (k : o = 4) (w : World) :
    Calls Tryz.prog 21 #[E.six o rd rs1 rs2 im n] w fun e w' => e = .returned (.int .u32 (numR o im : Nat)) ∧ w.grownBy w' none := by
  have HK := Lib.hid (show kindV o = 1 from kind1 (by omega))
  have hR := Row.fresh w 23 [.int .i64 o, .int .i64 rd, .int .i64 rs1, .int .i64 rs2, .int .i64 im, .int .i64 n]
  have c0 := hR.cell 0
  simp only [List.getElem?_cons_zero] at c0
  rw [numR_lay o im (by omega) (by omega), fmt3 (by omega)]
  have HLy := Lib.hid (fun W => rLay_c im 1 hi (by decide) W)
  generalize layV im 1 = lv at *
  generalize layB im 1 = lb at *
  subst k
  go_enter Tryz.func21, Tryz.ntmps21
  go_wp2_with fail
  refine (rKind_c 4 (by decide) _).mono ?_
  rintro e w1 ⟨rfl, hG1⟩
  rw [HK.out]
  have hR1 := hR.grown hG1 (by simp)
  have hG2 := gr_trans (gr_alloc (gr_refl w none) (.cells #[.int .i64 4, .int .i64 rd, .int .i64 rs1, .int .i64 rs2, .int .i64 im, .int .i64 n] 23)) hG1
  clear c0 hR hG1
  have c0 := hR1.cell 0
  have c4 := hR1.cell 4
  simp only [List.getElem?_cons_zero, List.getElem?_cons_succ] at c0 c4
  clear hR1
  go_wp2_with fail
  refine (HLy.out _).mono ?_
  rintro e w3 ⟨rfl, hG3⟩
  go_wp2_with fail
  go_ret
  exact ⟨rfl, gr_trans hG2 hG3⟩
set_option maxHeartbeats 1000000 in
theorem num5_c (o rd rs1 rs2 im n : Int) (ho : I64 o) (hi : I64 im) (k : 5 ≤ o ∧ o ≤ 10) (w : World) :
    Calls Tryz.prog 21 #[E.six o rd rs1 rs2 im n] w fun e w' => e = .returned (.int .u32 (numR o im : Nat)) ∧ w.grownBy w' none := by
  have HK := Lib.hid (show kindV o = 2 from kind2 k)
  have hR := Row.fresh w 23 [.int .i64 o, .int .i64 rd, .int .i64 rs1, .int .i64 rs2, .int .i64 im, .int .i64 n]
  have c0 := hR.cell 0
  simp only [List.getElem?_cons_zero] at c0
  rw [numR_lay o im (by omega) (by omega), fmt4 k]
  have HLy := Lib.hid (fun W => rLay_c im 3 hi (by decide) W)
  generalize layV im 3 = lv at *
  generalize layB im 3 = lb at *
  go_enter Tryz.func21, Tryz.ntmps21
  go_wp2_with fail
  refine (rKind_c o ho _).mono ?_
  rintro e w1 ⟨rfl, hG1⟩
  rw [HK.out]
  have hR1 := hR.grown hG1 (by simp)
  have hG2 := gr_trans (gr_alloc (gr_refl w none) (.cells #[.int .i64 o, .int .i64 rd, .int .i64 rs1, .int .i64 rs2, .int .i64 im, .int .i64 n] 23)) hG1
  clear c0 hR hG1
  have c0 := hR1.cell 0
  have c4 := hR1.cell 4
  simp only [List.getElem?_cons_zero, List.getElem?_cons_succ] at c0 c4
  clear hR1
  go_wp2_with fail
  refine (HLy.out _).mono ?_
  rintro e w3 ⟨rfl, hG3⟩
  go_wp2_with fail
  go_ret
  exact ⟨rfl, gr_trans hG2 hG3⟩
set_option maxHeartbeats 1000000 in
theorem num6_c (o rd rs1 rs2 im n : Int) (ho : I64 o) (hi : I64 im) (k : 11 ≤ o ∧ o ≤ 17) (w : World) :
    Calls Tryz.prog 21 #[E.six o rd rs1 rs2 im n] w fun e w' => e = .returned (.int .u32 (numR o im : Nat)) ∧ w.grownBy w' none := by
  have HK := Lib.hid (show kindV o = 3 from kind3 k)
  have hR := Row.fresh w 23 [.int .i64 o, .int .i64 rd, .int .i64 rs1, .int .i64 rs2, .int .i64 im, .int .i64 n]
  have c0 := hR.cell 0
  simp only [List.getElem?_cons_zero] at c0
  rw [numR_lay o im (by omega) (by omega), fmt5 k]
  have HLy := Lib.hid (fun W => rLay_c im 1 hi (by decide) W)
  generalize layV im 1 = lv at *
  generalize layB im 1 = lb at *
  go_enter Tryz.func21, Tryz.ntmps21
  go_wp2_with fail
  refine (rKind_c o ho _).mono ?_
  rintro e w1 ⟨rfl, hG1⟩
  rw [HK.out]
  have hR1 := hR.grown hG1 (by simp)
  have hG2 := gr_trans (gr_alloc (gr_refl w none) (.cells #[.int .i64 o, .int .i64 rd, .int .i64 rs1, .int .i64 rs2, .int .i64 im, .int .i64 n] 23)) hG1
  clear c0 hR hG1
  have c0 := hR1.cell 0
  have c4 := hR1.cell 4
  simp only [List.getElem?_cons_zero, List.getElem?_cons_succ] at c0 c4
  clear hR1
  go_wp2_with fail
  refine (HLy.out _).mono ?_
  rintro e w3 ⟨rfl, hG3⟩
  go_wp2_with fail
  go_ret
  exact ⟨rfl, gr_trans hG2 hG3⟩
set_option maxHeartbeats 1000000 in
theorem num7_c (o rd rs1 rs2 im n : Int) (ho : I64 o) (hi : I64 im) (k : 18 ≤ o ∧ o ≤ 21) (w : World) :
    Calls Tryz.prog 21 #[E.six o rd rs1 rs2 im n] w fun e w' => e = .returned (.int .u32 (numR o im : Nat)) ∧ w.grownBy w' none := by
  have HK := Lib.hid (show kindV o = 4 from kind4 k)
  have hR := Row.fresh w 23 [.int .i64 o, .int .i64 rd, .int .i64 rs1, .int .i64 rs2, .int .i64 im, .int .i64 n]
  have c0 := hR.cell 0
  simp only [List.getElem?_cons_zero] at c0
  rw [numR_lay o im (by omega) (by omega), fmt6 k]
  have HLy := Lib.hid (fun W => rLay_c im 2 hi (by decide) W)
  generalize layV im 2 = lv at *
  generalize layB im 2 = lb at *
  go_enter Tryz.func21, Tryz.ntmps21
  go_wp2_with fail
  refine (rKind_c o ho _).mono ?_
  rintro e w1 ⟨rfl, hG1⟩
  rw [HK.out]
  have hR1 := hR.grown hG1 (by simp)
  have hG2 := gr_trans (gr_alloc (gr_refl w none) (.cells #[.int .i64 o, .int .i64 rd, .int .i64 rs1, .int .i64 rs2, .int .i64 im, .int .i64 n] 23)) hG1
  clear c0 hR hG1
  have c0 := hR1.cell 0
  have c4 := hR1.cell 4
  simp only [List.getElem?_cons_zero, List.getElem?_cons_succ] at c0 c4
  clear hR1
  go_wp2_with fail
  refine (HLy.out _).mono ?_
  rintro e w3 ⟨rfl, hG3⟩
  go_wp2_with fail
  go_ret
  exact ⟨rfl, gr_trans hG2 hG3⟩
set_option maxHeartbeats 1000000 in
theorem num8_c (o rd rs1 rs2 im n : Int) (ho : I64 o) (hi : I64 im) (k : 22 ≤ o ∧ o ≤ 27) (w : World) :
    Calls Tryz.prog 21 #[E.six o rd rs1 rs2 im n] w fun e w' => e = .returned (.int .u32 (numR o im : Nat)) ∧ w.grownBy w' none := by
  have HK := Lib.hid (show kindV o = 5 from kind5 (by omega))
  have hR := Row.fresh w 23 [.int .i64 o, .int .i64 rd, .int .i64 rs1, .int .i64 rs2, .int .i64 im, .int .i64 n]
  have c0 := hR.cell 0
  simp only [List.getElem?_cons_zero] at c0
  rw [numR_lay o im (by omega) (by omega), fmt7 (by omega)]
  have HLy := Lib.hid (fun W => rLay_c im 1 hi (by decide) W)
  generalize layV im 1 = lv at *
  generalize layB im 1 = lb at *
  have n1 : decide (28 ≤ o) = false := by simp; omega
  have n2 : decide (42 ≤ o) = false := by simp; omega
  go_enter Tryz.func21, Tryz.ntmps21
  go_wp2_with fail
  refine (rKind_c o ho _).mono ?_
  rintro e w1 ⟨rfl, hG1⟩
  rw [HK.out]
  have hR1 := hR.grown hG1 (by simp)
  have hG2 := gr_trans (gr_alloc (gr_refl w none) (.cells #[.int .i64 o, .int .i64 rd, .int .i64 rs1, .int .i64 rs2, .int .i64 im, .int .i64 n] 23)) hG1
  clear c0 hR hG1
  have c0 := hR1.cell 0
  have c4 := hR1.cell 4
  simp only [List.getElem?_cons_zero, List.getElem?_cons_succ] at c0 c4
  clear hR1
  go_wp2_with fail
  refine (HLy.out _).mono ?_
  rintro e w3 ⟨rfl, hG3⟩
  go_wp2_with fail
  go_ret
  exact ⟨rfl, gr_trans hG2 hG3⟩
set_option maxHeartbeats 1000000 in
theorem num9_c (o rd rs1 rs2 im n : Int) (ho : I64 o) (hi : I64 im) (k : 28 ≤ o ∧ o ≤ 30) (w : World) :
    Calls Tryz.prog 21 #[E.six o rd rs1 rs2 im n] w fun e w' => e = .returned (.int .u32 (numR o im : Nat)) ∧ w.grownBy w' none := by
  have HK := Lib.hid (show kindV o = 5 from kind5 (by omega))
  have hR := Row.fresh w 23 [.int .i64 o, .int .i64 rd, .int .i64 rs1, .int .i64 rs2, .int .i64 im, .int .i64 n]
  have c0 := hR.cell 0
  simp only [List.getElem?_cons_zero] at c0
  have HV := Lib.hid (show ((numR o im : Nat) : Int) = im % 64 * 1048576 from by unfold numR; rw [if_pos (by omega)]; omega)
  have n1 : 28 ≤ o := by omega
  have n2 : o ≤ 30 := by omega
  go_enter Tryz.func21, Tryz.ntmps21
  go_wp2_with fail
  refine (rKind_c o ho _).mono ?_
  rintro e w1 ⟨rfl, hG1⟩
  rw [HK.out]
  have hR1 := hR.grown hG1 (by simp)
  have hG2 := gr_trans (gr_alloc (gr_refl w none) (.cells #[.int .i64 o, .int .i64 rd, .int .i64 rs1, .int .i64 rs2, .int .i64 im, .int .i64 n] 23)) hG1
  clear c0 hR hG1
  have c0 := hR1.cell 0
  have c4 := hR1.cell 4
  simp only [List.getElem?_cons_zero, List.getElem?_cons_succ] at c0 c4
  clear hR1
  go_wp2_with fail
  go_ret
  exact ⟨ret_int (by rw [HV.out, tm64 im]; omega), hG2⟩
set_option maxHeartbeats 1000000 in
theorem num10_c (o rd rs1 rs2 im n : Int) (ho : I64 o) (hi : I64 im) (k : 31 ≤ o ∧ o ≤ 40) (w : World) :
    Calls Tryz.prog 21 #[E.six o rd rs1 rs2 im n] w fun e w' => e = .returned (.int .u32 (numR o im : Nat)) ∧ w.grownBy w' none := by
  have HK := Lib.hid (show kindV o = 6 from kind6 k)
  have hR := Row.fresh w 23 [.int .i64 o, .int .i64 rd, .int .i64 rs1, .int .i64 rs2, .int .i64 im, .int .i64 n]
  have c0 := hR.cell 0
  simp only [List.getElem?_cons_zero] at c0
  rw [numR_lay o im (by omega) (by omega), fmt8 k]
  have HLy := Lib.hid (fun W => rLay_c im 0 hi (by decide) W)
  generalize layV im 0 = lv at *
  generalize layB im 0 = lb at *
  go_enter Tryz.func21, Tryz.ntmps21
  go_wp2_with fail
  refine (rKind_c o ho _).mono ?_
  rintro e w1 ⟨rfl, hG1⟩
  rw [HK.out]
  have hR1 := hR.grown hG1 (by simp)
  have hG2 := gr_trans (gr_alloc (gr_refl w none) (.cells #[.int .i64 o, .int .i64 rd, .int .i64 rs1, .int .i64 rs2, .int .i64 im, .int .i64 n] 23)) hG1
  clear c0 hR hG1
  have c0 := hR1.cell 0
  have c4 := hR1.cell 4
  simp only [List.getElem?_cons_zero, List.getElem?_cons_succ] at c0 c4
  clear hR1
  go_wp2_with fail
  refine (HLy.out _).mono ?_
  rintro e w3 ⟨rfl, hG3⟩
  go_wp2_with fail
  go_ret
  exact ⟨rfl, gr_trans hG2 hG3⟩
set_option maxHeartbeats 1000000 in
theorem num11_c (o rd rs1 rs2 im n : Int) (ho : I64 o) (hi : I64 im) (k : o = 41) (w : World) :
    Calls Tryz.prog 21 #[E.six o rd rs1 rs2 im n] w fun e w' => e = .returned (.int .u32 (numR o im : Nat)) ∧ w.grownBy w' none := by
  have HK := Lib.hid (show kindV o = 7 from kind7 (by omega))
  have hR := Row.fresh w 23 [.int .i64 o, .int .i64 rd, .int .i64 rs1, .int .i64 rs2, .int .i64 im, .int .i64 n]
  have c0 := hR.cell 0
  simp only [List.getElem?_cons_zero] at c0
  rw [numR_lay o im (by omega) (by omega), fmt9 (by omega)]
  have HLy := Lib.hid (fun W => rLay_c im 1 hi (by decide) W)
  generalize layV im 1 = lv at *
  generalize layB im 1 = lb at *
  subst k
  go_enter Tryz.func21, Tryz.ntmps21
  go_wp2_with fail
  refine (rKind_c 41 (by decide) _).mono ?_
  rintro e w1 ⟨rfl, hG1⟩
  rw [HK.out]
  have hR1 := hR.grown hG1 (by simp)
  have hG2 := gr_trans (gr_alloc (gr_refl w none) (.cells #[.int .i64 41, .int .i64 rd, .int .i64 rs1, .int .i64 rs2, .int .i64 im, .int .i64 n] 23)) hG1
  clear c0 hR hG1
  have c0 := hR1.cell 0
  have c4 := hR1.cell 4
  simp only [List.getElem?_cons_zero, List.getElem?_cons_succ] at c0 c4
  clear hR1
  go_wp2_with fail
  refine (HLy.out _).mono ?_
  rintro e w3 ⟨rfl, hG3⟩
  go_wp2_with fail
  go_ret
  exact ⟨rfl, gr_trans hG2 hG3⟩
set_option maxHeartbeats 1000000 in
theorem num12_c (o rd rs1 rs2 im n : Int) (ho : I64 o) (hi : I64 im) (k : 42 ≤ o ∧ o ≤ 44) (w : World) :
    Calls Tryz.prog 21 #[E.six o rd rs1 rs2 im n] w fun e w' => e = .returned (.int .u32 (numR o im : Nat)) ∧ w.grownBy w' none := by
  have HK := Lib.hid (show kindV o = 7 from kind7 (by omega))
  have hR := Row.fresh w 23 [.int .i64 o, .int .i64 rd, .int .i64 rs1, .int .i64 rs2, .int .i64 im, .int .i64 n]
  have c0 := hR.cell 0
  simp only [List.getElem?_cons_zero] at c0
  have HV := Lib.hid (show ((numR o im : Nat) : Int) = im % 64 * 1048576 from by unfold numR; rw [if_pos (by omega)]; omega)
  have n1 : 28 ≤ o := by omega
  have n2 : decide (o ≤ 30) = false := by simp; omega
  have n3 : 42 ≤ o := by omega
  have n4 : o ≤ 44 := by omega
  go_enter Tryz.func21, Tryz.ntmps21
  go_wp2_with fail
  refine (rKind_c o ho _).mono ?_
  rintro e w1 ⟨rfl, hG1⟩
  rw [HK.out]
  have hR1 := hR.grown hG1 (by simp)
  have hG2 := gr_trans (gr_alloc (gr_refl w none) (.cells #[.int .i64 o, .int .i64 rd, .int .i64 rs1, .int .i64 rs2, .int .i64 im, .int .i64 n] 23)) hG1
  clear c0 hR hG1
  have c0 := hR1.cell 0
  have c4 := hR1.cell 4
  simp only [List.getElem?_cons_zero, List.getElem?_cons_succ] at c0 c4
  clear hR1
  go_wp2_with fail
  go_ret
  exact ⟨ret_int (by rw [HV.out, tm64 im]; omega), hG2⟩
set_option maxHeartbeats 1000000 in
theorem num13_c (o rd rs1 rs2 im n : Int) (ho : I64 o) (hi : I64 im) (k : 45 ≤ o ∧ o ≤ 49) (w : World) :
    Calls Tryz.prog 21 #[E.six o rd rs1 rs2 im n] w fun e w' => e = .returned (.int .u32 (numR o im : Nat)) ∧ w.grownBy w' none := by
  have HK := Lib.hid (show kindV o = 8 from kind8 k)
  have hR := Row.fresh w 23 [.int .i64 o, .int .i64 rd, .int .i64 rs1, .int .i64 rs2, .int .i64 im, .int .i64 n]
  have c0 := hR.cell 0
  simp only [List.getElem?_cons_zero] at c0
  rw [numR_lay o im (by omega) (by omega), fmt10 (by omega)]
  have HLy := Lib.hid (fun W => rLay_c im 0 hi (by decide) W)
  generalize layV im 0 = lv at *
  generalize layB im 0 = lb at *
  go_enter Tryz.func21, Tryz.ntmps21
  go_wp2_with fail
  refine (rKind_c o ho _).mono ?_
  rintro e w1 ⟨rfl, hG1⟩
  rw [HK.out]
  have hR1 := hR.grown hG1 (by simp)
  have hG2 := gr_trans (gr_alloc (gr_refl w none) (.cells #[.int .i64 o, .int .i64 rd, .int .i64 rs1, .int .i64 rs2, .int .i64 im, .int .i64 n] 23)) hG1
  clear c0 hR hG1
  have c0 := hR1.cell 0
  have c4 := hR1.cell 4
  simp only [List.getElem?_cons_zero, List.getElem?_cons_succ] at c0 c4
  clear hR1
  go_wp2_with fail
  refine (HLy.out _).mono ?_
  rintro e w3 ⟨rfl, hG3⟩
  go_wp2_with fail
  go_ret
  exact ⟨rfl, gr_trans hG2 hG3⟩
set_option maxHeartbeats 1000000 in
theorem num14_c (o rd rs1 rs2 im n : Int) (ho : I64 o) (hi : I64 im) (k : 50 ≤ o ∧ o ≤ 57) (w : World) :
    Calls Tryz.prog 21 #[E.six o rd rs1 rs2 im n] w fun e w' => e = .returned (.int .u32 (numR o im : Nat)) ∧ w.grownBy w' none := by
  have HK := Lib.hid (show kindV o = 9 from kind9 k)
  have hR := Row.fresh w 23 [.int .i64 o, .int .i64 rd, .int .i64 rs1, .int .i64 rs2, .int .i64 im, .int .i64 n]
  have c0 := hR.cell 0
  simp only [List.getElem?_cons_zero] at c0
  rw [numR_lay o im (by omega) (by omega), fmt10 (by omega)]
  have HLy := Lib.hid (fun W => rLay_c im 0 hi (by decide) W)
  generalize layV im 0 = lv at *
  generalize layB im 0 = lb at *
  go_enter Tryz.func21, Tryz.ntmps21
  go_wp2_with fail
  refine (rKind_c o ho _).mono ?_
  rintro e w1 ⟨rfl, hG1⟩
  rw [HK.out]
  have hR1 := hR.grown hG1 (by simp)
  have hG2 := gr_trans (gr_alloc (gr_refl w none) (.cells #[.int .i64 o, .int .i64 rd, .int .i64 rs1, .int .i64 rs2, .int .i64 im, .int .i64 n] 23)) hG1
  clear c0 hR hG1
  have c0 := hR1.cell 0
  have c4 := hR1.cell 4
  simp only [List.getElem?_cons_zero, List.getElem?_cons_succ] at c0 c4
  clear hR1
  go_wp2_with fail
  refine (HLy.out _).mono ?_
  rintro e w3 ⟨rfl, hG3⟩
  go_wp2_with fail
  go_ret
  exact ⟨rfl, gr_trans hG2 hG3⟩
set_option maxHeartbeats 1000000 in
theorem num15_c (o rd rs1 rs2 im n : Int) (ho : I64 o) (hi : I64 im) (k : 58 ≤ o ∧ o ≤ 62) (w : World) :
    Calls Tryz.prog 21 #[E.six o rd rs1 rs2 im n] w fun e w' => e = .returned (.int .u32 (numR o im : Nat)) ∧ w.grownBy w' none := by
  have HK := Lib.hid (show kindV o = 10 from kind10 k)
  have hR := Row.fresh w 23 [.int .i64 o, .int .i64 rd, .int .i64 rs1, .int .i64 rs2, .int .i64 im, .int .i64 n]
  have c0 := hR.cell 0
  simp only [List.getElem?_cons_zero] at c0
  rw [numR_lay o im (by omega) (by omega), fmt10 (by omega)]
  have HLy := Lib.hid (fun W => rLay_c im 0 hi (by decide) W)
  generalize layV im 0 = lv at *
  generalize layB im 0 = lb at *
  go_enter Tryz.func21, Tryz.ntmps21
  go_wp2_with fail
  refine (rKind_c o ho _).mono ?_
  rintro e w1 ⟨rfl, hG1⟩
  rw [HK.out]
  have hR1 := hR.grown hG1 (by simp)
  have hG2 := gr_trans (gr_alloc (gr_refl w none) (.cells #[.int .i64 o, .int .i64 rd, .int .i64 rs1, .int .i64 rs2, .int .i64 im, .int .i64 n] 23)) hG1
  clear c0 hR hG1
  have c0 := hR1.cell 0
  have c4 := hR1.cell 4
  simp only [List.getElem?_cons_zero, List.getElem?_cons_succ] at c0 c4
  clear hR1
  go_wp2_with fail
  refine (HLy.out _).mono ?_
  rintro e w3 ⟨rfl, hG3⟩
  go_wp2_with fail
  go_ret
  exact ⟨rfl, gr_trans hG2 hG3⟩
set_option maxHeartbeats 1000000 in
theorem num16_c (o rd rs1 rs2 im n : Int) (ho : I64 o) (hi : I64 im) (k : 63 ≤ o ∧ o ≤ 69) (w : World) :
    Calls Tryz.prog 21 #[E.six o rd rs1 rs2 im n] w fun e w' => e = .returned (.int .u32 (numR o im : Nat)) ∧ w.grownBy w' none := by
  have HK := Lib.hid (show kindV o = 11 from kind11 k)
  have hR := Row.fresh w 23 [.int .i64 o, .int .i64 rd, .int .i64 rs1, .int .i64 rs2, .int .i64 im, .int .i64 n]
  have c0 := hR.cell 0
  simp only [List.getElem?_cons_zero] at c0
  rw [numR_lay o im (by omega) (by omega), fmt10 (by omega)]
  have HLy := Lib.hid (fun W => rLay_c im 0 hi (by decide) W)
  generalize layV im 0 = lv at *
  generalize layB im 0 = lb at *
  go_enter Tryz.func21, Tryz.ntmps21
  go_wp2_with fail
  refine (rKind_c o ho _).mono ?_
  rintro e w1 ⟨rfl, hG1⟩
  rw [HK.out]
  have hR1 := hR.grown hG1 (by simp)
  have hG2 := gr_trans (gr_alloc (gr_refl w none) (.cells #[.int .i64 o, .int .i64 rd, .int .i64 rs1, .int .i64 rs2, .int .i64 im, .int .i64 n] 23)) hG1
  clear c0 hR hG1
  have c0 := hR1.cell 0
  have c4 := hR1.cell 4
  simp only [List.getElem?_cons_zero, List.getElem?_cons_succ] at c0 c4
  clear hR1
  go_wp2_with fail
  refine (HLy.out _).mono ?_
  rintro e w3 ⟨rfl, hG3⟩
  go_wp2_with fail
  go_ret
  exact ⟨rfl, gr_trans hG2 hG3⟩
set_option maxHeartbeats 1000000 in
theorem num17_c (o rd rs1 rs2 im n : Int) (ho : I64 o) (hi : I64 im) (k : 70 ≤ o ∧ o ≤ 75) (w : World) :
    Calls Tryz.prog 21 #[E.six o rd rs1 rs2 im n] w fun e w' => e = .returned (.int .u32 (numR o im : Nat)) ∧ w.grownBy w' none := by
  have HK := Lib.hid (show kindV o = 12 from kind12 k)
  have hR := Row.fresh w 23 [.int .i64 o, .int .i64 rd, .int .i64 rs1, .int .i64 rs2, .int .i64 im, .int .i64 n]
  have c0 := hR.cell 0
  simp only [List.getElem?_cons_zero] at c0
  have HV := Lib.hid (show ((numR o im : Nat) : Int) = im % 4096 * 1048576 from by unfold numR; rw [if_neg (by omega), if_pos (by omega)]; omega)
  go_enter Tryz.func21, Tryz.ntmps21
  go_wp2_with fail
  refine (rKind_c o ho _).mono ?_
  rintro e w1 ⟨rfl, hG1⟩
  rw [HK.out]
  have hR1 := hR.grown hG1 (by simp)
  have hG2 := gr_trans (gr_alloc (gr_refl w none) (.cells #[.int .i64 o, .int .i64 rd, .int .i64 rs1, .int .i64 rs2, .int .i64 im, .int .i64 n] 23)) hG1
  clear c0 hR hG1
  have c0 := hR1.cell 0
  have c4 := hR1.cell 4
  simp only [List.getElem?_cons_zero, List.getElem?_cons_succ] at c0 c4
  clear hR1
  go_wp2_with fail
  go_ret
  exact ⟨ret_int (by rw [HV.out, tm4096 im]; omega), hG2⟩
set_option maxHeartbeats 1000000 in
theorem num18_c (o rd rs1 rs2 im n : Int) (ho : I64 o) (hi : I64 im) (k : 76 ≤ o ∧ o ≤ 86) (w : World) :
    Calls Tryz.prog 21 #[E.six o rd rs1 rs2 im n] w fun e w' => e = .returned (.int .u32 (numR o im : Nat)) ∧ w.grownBy w' none := by
  have HK := Lib.hid (show kindV o = 13 from kind13 k)
  have hR := Row.fresh w 23 [.int .i64 o, .int .i64 rd, .int .i64 rs1, .int .i64 rs2, .int .i64 im, .int .i64 n]
  have c0 := hR.cell 0
  simp only [List.getElem?_cons_zero] at c0
  rw [numR_lay o im (by omega) (by omega), fmt10 (by omega)]
  have HLy := Lib.hid (fun W => rLay_c im 0 hi (by decide) W)
  generalize layV im 0 = lv at *
  generalize layB im 0 = lb at *
  go_enter Tryz.func21, Tryz.ntmps21
  go_wp2_with fail
  refine (rKind_c o ho _).mono ?_
  rintro e w1 ⟨rfl, hG1⟩
  rw [HK.out]
  have hR1 := hR.grown hG1 (by simp)
  have hG2 := gr_trans (gr_alloc (gr_refl w none) (.cells #[.int .i64 o, .int .i64 rd, .int .i64 rs1, .int .i64 rs2, .int .i64 im, .int .i64 n] 23)) hG1
  clear c0 hR hG1
  have c0 := hR1.cell 0
  have c4 := hR1.cell 4
  simp only [List.getElem?_cons_zero, List.getElem?_cons_succ] at c0 c4
  clear hR1
  go_wp2_with fail
  refine (HLy.out _).mono ?_
  rintro e w3 ⟨rfl, hG3⟩
  go_wp2_with fail
  go_ret
  exact ⟨rfl, gr_trans hG2 hG3⟩
set_option maxHeartbeats 1000000 in
theorem num19_c (o rd rs1 rs2 im n : Int) (ho : I64 o) (hi : I64 im) (k : 87 ≤ o ∧ o ≤ 97) (w : World) :
    Calls Tryz.prog 21 #[E.six o rd rs1 rs2 im n] w fun e w' => e = .returned (.int .u32 (numR o im : Nat)) ∧ w.grownBy w' none := by
  have HK := Lib.hid (show kindV o = 14 from kind14 k)
  have hR := Row.fresh w 23 [.int .i64 o, .int .i64 rd, .int .i64 rs1, .int .i64 rs2, .int .i64 im, .int .i64 n]
  have c0 := hR.cell 0
  simp only [List.getElem?_cons_zero] at c0
  rw [numR_lay o im (by omega) (by omega), fmt10 (by omega)]
  have HLy := Lib.hid (fun W => rLay_c im 0 hi (by decide) W)
  generalize layV im 0 = lv at *
  generalize layB im 0 = lb at *
  go_enter Tryz.func21, Tryz.ntmps21
  go_wp2_with fail
  refine (rKind_c o ho _).mono ?_
  rintro e w1 ⟨rfl, hG1⟩
  rw [HK.out]
  have hR1 := hR.grown hG1 (by simp)
  have hG2 := gr_trans (gr_alloc (gr_refl w none) (.cells #[.int .i64 o, .int .i64 rd, .int .i64 rs1, .int .i64 rs2, .int .i64 im, .int .i64 n] 23)) hG1
  clear c0 hR hG1
  have c0 := hR1.cell 0
  have c4 := hR1.cell 4
  simp only [List.getElem?_cons_zero, List.getElem?_cons_succ] at c0 c4
  clear hR1
  go_wp2_with fail
  refine (HLy.out _).mono ?_
  rintro e w3 ⟨rfl, hG3⟩
  go_wp2_with fail
  go_ret
  exact ⟨rfl, gr_trans hG2 hG3⟩
set_option maxHeartbeats 1000000 in
theorem num20_c (o rd rs1 rs2 im n : Int) (ho : I64 o) (hi : I64 im) (k : 97 < o) (w : World) :
    Calls Tryz.prog 21 #[E.six o rd rs1 rs2 im n] w fun e w' => e = .returned (.int .u32 (numR o im : Nat)) ∧ w.grownBy w' none := by
  have HK := Lib.hid (show kindV o = 0 from kind_none o k)
  have hR := Row.fresh w 23 [.int .i64 o, .int .i64 rd, .int .i64 rs1, .int .i64 rs2, .int .i64 im, .int .i64 n]
  have c0 := hR.cell 0
  simp only [List.getElem?_cons_zero] at c0
  rw [numR_lay o im (by omega) (by omega), fmt10 (by omega)]
  have HLy := Lib.hid (fun W => rLay_c im 0 hi (by decide) W)
  generalize layV im 0 = lv at *
  generalize layB im 0 = lb at *
  go_enter Tryz.func21, Tryz.ntmps21
  go_wp2_with fail
  refine (rKind_c o ho _).mono ?_
  rintro e w1 ⟨rfl, hG1⟩
  rw [HK.out]
  have hR1 := hR.grown hG1 (by simp)
  have hG2 := gr_trans (gr_alloc (gr_refl w none) (.cells #[.int .i64 o, .int .i64 rd, .int .i64 rs1, .int .i64 rs2, .int .i64 im, .int .i64 n] 23)) hG1
  clear c0 hR hG1
  have c0 := hR1.cell 0
  have c4 := hR1.cell 4
  simp only [List.getElem?_cons_zero, List.getElem?_cons_succ] at c0 c4
  clear hR1
  go_wp2_with fail
  refine (HLy.out _).mono ?_
  rintro e w3 ⟨rfl, hG3⟩
  go_wp2_with fail
  go_ret
  exact ⟨rfl, gr_trans hG2 hG3⟩
theorem number_c (o rd rs1 rs2 im n : Int) (ho : I64 o) (hi : I64 im) (w : World) :
    Calls Tryz.prog 21 #[E.six o rd rs1 rs2 im n] w fun e w' => e = .returned (.int .u32 (numR o im : Nat)) ∧ w.grownBy w' none := by
  rcases (show (o ≤ 0) ∨ (o = 1) ∨ (o = 2) ∨ (o = 3) ∨ (o = 4) ∨ (5 ≤ o ∧ o ≤ 10) ∨ (11 ≤ o ∧ o ≤ 17) ∨ (18 ≤ o ∧ o ≤ 21) ∨ (22 ≤ o ∧ o ≤ 27) ∨ (28 ≤ o ∧ o ≤ 30) ∨ (31 ≤ o ∧ o ≤ 40) ∨ (o = 41) ∨ (42 ≤ o ∧ o ≤ 44) ∨ (45 ≤ o ∧ o ≤ 49) ∨ (50 ≤ o ∧ o ≤ 57) ∨ (58 ≤ o ∧ o ≤ 62) ∨ (63 ≤ o ∧ o ≤ 69) ∨ (70 ≤ o ∧ o ≤ 75) ∨ (76 ≤ o ∧ o ≤ 86) ∨ (87 ≤ o ∧ o ≤ 97) ∨ (97 < o) by omega) with k | k | k | k | k | k | k | k | k | k | k | k | k | k | k | k | k | k | k | k | k
  · exact num0_c o rd rs1 rs2 im n ho hi k w
  · exact num1_c o rd rs1 rs2 im n ho hi k w
  · exact num2_c o rd rs1 rs2 im n ho hi k w
  · exact num3_c o rd rs1 rs2 im n ho hi k w
  · exact num4_c o rd rs1 rs2 im n ho hi k w
  · exact num5_c o rd rs1 rs2 im n ho hi k w
  · exact num6_c o rd rs1 rs2 im n ho hi k w
  · exact num7_c o rd rs1 rs2 im n ho hi k w
  · exact num8_c o rd rs1 rs2 im n ho hi k w
  · exact num9_c o rd rs1 rs2 im n ho hi k w
  · exact num10_c o rd rs1 rs2 im n ho hi k w
  · exact num11_c o rd rs1 rs2 im n ho hi k w
  · exact num12_c o rd rs1 rs2 im n ho hi k w
  · exact num13_c o rd rs1 rs2 im n ho hi k w
  · exact num14_c o rd rs1 rs2 im n ho hi k w
  · exact num15_c o rd rs1 rs2 im n ho hi k w
  · exact num16_c o rd rs1 rs2 im n ho hi k w
  · exact num17_c o rd rs1 rs2 im n ho hi k w
  · exact num18_c o rd rs1 rs2 im n ho hi k w
  · exact num19_c o rd rs1 rs2 im n ho hi k w
  · exact num20_c o rd rs1 rs2 im n ho hi k w
end Go.Proofs.YtpbeamnogfjagaaGreatDoor.refEnc
end

section
namespace Go.Proofs.YtpbeamnogfjagaaGreatDoor.refEnc
open Go Go.RowKit F W M D E refWord
set_option linter.unusedVariables false
set_option maxRecDepth 100000
theorem base_c (o : Int) (ho : I64 o) (w : World) :
    Calls Tryz.prog 20 #[.int .i64 o] w fun e w' => e = .returned (.int .u32 (baseV o : Nat)) ∧ w.grownBy w' none := by
  rcases (show o < 0 ∨ (0 ≤ o ∧ o < 76) ∨ (76 ≤ o ∧ o < 87) ∨ (87 ≤ o ∧ o ≤ 97) ∨ 97 < o by omega) with h | h | h | h | h
  · exact base_neg o ho h w
  · obtain ⟨k, rfl⟩ : ∃ k : Nat, o = k := ⟨o.toNat, by omega⟩
    exact base_low k (by omega) w
  · obtain ⟨k, rfl⟩ : ∃ k : Nat, o = 76 + (k : Int) := ⟨(o - 76).toNat, by omega⟩
    exact base_w k (by omega) w
  · obtain ⟨k, rfl⟩ : ∃ k : Nat, o = 87 + (k : Int) := ⟨(o - 87).toNat, by omega⟩
    exact base_d k (by omega) w
  · exact base_big o ho h w
end Go.Proofs.YtpbeamnogfjagaaGreatDoor.refEnc
end

section
namespace Go.Proofs.YtpbeamnogfjagaaGreatDoor.refEnc
open Go Go.RowKit F W M D E refWord
set_option linter.unusedVariables false
set_option maxRecDepth 100000

theorem and31i (b : Int) : bits .and .i64 b 31 = b % 32 := by
  show IntKind.i64.wrap ((BitVec.ofInt 64 b &&& BitVec.ofInt 64 31).toNat : Int) = _
  rw [BitVec.toNat_and, show (BitVec.ofInt 64 31).toNat = 2 ^ 5 - 1 from rfl, Nat.and_two_pow_sub_one_eq_mod, BitVec.toNat_ofInt, IntKind.wrap_i64]
  rw [show (2 : Nat) ^ 64 = 18446744073709551616 from rfl]
  omega
/-- The word that the document lays. -/
def layR (o rd rs1 rs2 im : Int) : Nat := baseV o ||| numR o im ||| (rd % 32).toNat <<< 7 ||| (rs1 % 32).toNat <<< 15 ||| (rs2 % 32).toNat <<< 20
theorem layR_lt (o rd rs1 rs2 im : Int) : layR o rd rs1 rs2 im < 4294967296 := by
  unfold layR
  exact or_lt32 (or_lt32 (or_lt32 (or_lt32 (base_lt o) (numR_lt _ _)) (shl_lt (by omega) (by omega))) (shl_lt (by omega) (by omega))) (shl_lt (by omega) (by omega))
theorem layR_bits (o rd rs1 rs2 im : Int) :
    bits .or .u32 (bits .or .u32 (bits .or .u32 (bits .or .u32 ((baseV o : Nat) : Int) ((numR o im : Nat) : Int)) (rd % 32 * 128)) (rs1 % 32 * 32768)) (rs2 % 32 * 1048576) = (layR o rd rs1 rs2 im : Nat) := by
  have e7 : (rd % 32 * 128 : Int) = (((rd % 32).toNat <<< 7 : Nat) : Int) := by rw [Nat.shiftLeft_eq]; omega
  have e15 : (rs1 % 32 * 32768 : Int) = (((rs1 % 32).toNat <<< 15 : Nat) : Int) := by rw [Nat.shiftLeft_eq]; omega
  have e20 : (rs2 % 32 * 1048576 : Int) = (((rs2 % 32).toNat <<< 20 : Nat) : Int) := by rw [Nat.shiftLeft_eq]; omega
  have l0 := base_lt o
  have l4 := numR_lt o im
  have l1 := shl_lt (a := (rd % 32).toNat) (k := 7) (by omega) (by omega)
  have l2 := shl_lt (a := (rs1 % 32).toNat) (k := 15) (by omega) (by omega)
  have l3 := shl_lt (a := (rs2 % 32).toNat) (k := 20) (by omega) (by omega)
  rw [e7, e15, e20, or32 _ _ l0 l4, or32 _ _ (or_lt32 l0 l4) l1, or32 _ _ (or_lt32 (or_lt32 l0 l4) l1) l2, or32 _ _ (or_lt32 (or_lt32 (or_lt32 l0 l4) l1) l2) l3]
  rfl
theorem numR_in (o : Int) (p : Parts) (h : D.Can o p) : numR o p.2.2.2 = numW o p.2.2.2 := by
  have hI := numI_in o p h
  obtain ⟨rd, rs1, rs2, im⟩ := p
  obtain ⟨ho, _, _, _, hl⟩ := h
  simp only at hl hI ⊢
  rcases (show (28 ≤ o ∧ o ≤ 30) ∨ (42 ≤ o ∧ o ≤ 44) ∨ (70 ≤ o ∧ o ≤ 75) ∨ ¬ ((28 ≤ o ∧ o ≤ 30) ∨ (42 ≤ o ∧ o ≤ 44) ∨ (70 ≤ o ∧ o ≤ 75)) by omega) with k | k | k | k
  · rw [lim8 _ _ _ _ _ k] at hl
    rw [num7 o im (by omega), lay_small im (by omega), numR, if_pos (by omega), Nat.shiftLeft_eq]
    congr 1
    omega
  · rw [lim11 _ _ _ _ _ k] at hl
    rw [num9 o im (by omega), lay_small im (by omega), numR, if_pos (by omega), Nat.shiftLeft_eq]
    congr 1
    omega
  · rw [lim15 _ _ _ _ _ k] at hl
    rw [num11 o im k, numR, if_neg (by omega), if_pos k, Nat.shiftLeft_eq]
    congr 1
    omega
  · rw [← hI, numR, if_neg (by omega), if_neg (by omega), numI, if_neg (by omega)]
theorem layR_can (o rd rs1 rs2 im : Int) (h : D.Can o (rd, rs1, rs2, im)) : layR o rd rs1 rs2 im = layW o (rd, rs1, rs2, im) := by
  have hn := numR_in o _ h
  obtain ⟨ho, h1, h2, h3, hl⟩ := h
  simp only at h1 h2 h3 hn
  unfold layR layW D.put
  simp only
  rw [show (rd % 32).toNat = rd.toNat by omega, show (rs1 % 32).toNat = rs1.toNat by omega, show (rs2 % 32).toNat = rs2.toNat by omega, hn]
  generalize baseV o = a
  generalize numW o im = b
  generalize rd.toNat <<< 7 = c
  generalize rs1.toNat <<< 15 = d
  generalize rs2.toNat <<< 20 = e
  rw [Nat.or_assoc a b c, Nat.or_comm b c, ← Nat.or_assoc a c b, Nat.or_assoc (a ||| c) b d, Nat.or_comm b d, ← Nat.or_assoc (a ||| c) d b, Nat.or_assoc (a ||| c ||| d) b e, Nat.or_comm b e, ← Nat.or_assoc (a ||| c ||| d) e b]
/-- Where the document finds a word, the program does, and it is the same. -/
theorem ref_ok (o rd rs1 rs2 im n : Int) : (D.wordV (layR o rd rs1 rs2 im) = (o, rd, rs1, rs2, im) ∧ n = 4) ↔ okE o rd rs1 rs2 im n = true := by
  rw [okE_iff]
  constructor
  · rintro ⟨h, rfl⟩
    have := word_can (layR o rd rs1 rs2 im)
    rw [h] at this
    exact ⟨this, rfl⟩
  · rintro ⟨h, rfl⟩
    rw [layR_can _ _ _ _ _ h]
    exact ⟨(lay_word _ _ h).2, rfl⟩
theorem ref_word {o rd rs1 rs2 im n : Int} (h : okE o rd rs1 rs2 im n = true) : wordE o rd rs1 rs2 im n = layR o rd rs1 rs2 im := by
  have hc := (okE_iff _ _ _ _ _ _).1 h
  rw [wordE, if_pos h, layI_can _ _ _ _ _ hc.1, layR_can _ _ _ _ _ hc.1]
theorem ref_zero (rd rs1 rs2 im n : Int) : wordE 0 rd rs1 rs2 im n = 0 ∧ okE 0 rd rs1 rs2 im n = decide (rd = 0 ∧ rs1 = 0 ∧ rs2 = 0 ∧ im = 0 ∧ n = 4) := by
  have key : okE 0 rd rs1 rs2 im n = true ↔ (rd = 0 ∧ rs1 = 0 ∧ rs2 = 0 ∧ im = 0 ∧ n = 4) := by
    rw [okE_iff]
    constructor
    · rintro ⟨⟨_, _, _, _, hl⟩, hn⟩
      simp only at hl
      rw [lim0 _ _ _ _ _ (by omega)] at hl
      exact ⟨hl.1, hl.2.1, hl.2.2.1, hl.2.2.2, hn⟩
    · rintro ⟨rfl, rfl, rfl, rfl, rfl⟩
      refine ⟨⟨by omega, by decide, by decide, by decide, ?_⟩, rfl⟩
      simp only
      rw [lim0 _ _ _ _ _ (by omega)]; exact ⟨rfl, rfl, rfl, rfl⟩
  by_cases h : rd = 0 ∧ rs1 = 0 ∧ rs2 = 0 ∧ im = 0 ∧ n = 4
  · have h' := key.2 h
    refine ⟨?_, by rw [h', decide_eq_true h]⟩
    obtain ⟨rfl, rfl, rfl, rfl, rfl⟩ := h
    decide +kernel
  · have h' : okE 0 rd rs1 rs2 im n = false := Bool.eq_false_iff.2 fun e => h (key.1 e)
    refine ⟨?_, by rw [h', decide_eq_false h]⟩
    rw [wordE, h']; rfl
set_option maxHeartbeats 4000000 in
theorem rWordE_no (o rd rs1 rs2 im n : Int) (ho : I64 o) (hi : I64 im) (h0 : (o == 0) = false) (h : okE o rd rs1 rs2 im n = false) (w : World) (hT : Tabs w) :
    Calls Tryz.prog 10 #[E.six o rd rs1 rs2 im n] w fun e w' => e = .returned (.tuple #[.int .u32 0, .bool false]) ∧ w.grownBy w' none := by
  have hS0 := heldT_new w hT o rd rs1 rs2 im n
  have HB := Lib.hid (fun W => base_c o ho W)
  have HN := Lib.hid (fun W => number_c o rd rs1 rs2 im n ho hi W)
  have HL := Lib.hid (layR_bits o rd rs1 rs2 im)
  have g1 := and31i rd
  have g2 := and31i rs1
  have g3 := and31i rs2
  have HW := Lib.hid (fun W => rWord_c (layR o rd rs1 rs2 im) (layR_lt o rd rs1 rs2 im) W)
  have hne : ¬ (D.wordV (layR o rd rs1 rs2 im) = (o, rd, rs1, rs2, im) ∧ n = 4) := fun e => by rw [(ref_ok o rd rs1 rs2 im n).1 e] at h; cases h
  generalize layR o rd rs1 rs2 im = v at *
  generalize D.wordV v = q at *
  obtain ⟨a1, a2, a3, a4, a5⟩ := q
  have hq := fun W => neq_yes (a1 := a1) (a2 := a2) (a3 := a3) (a4 := a4) (a5 := a5) (a6 := 4) (b1 := o) (b2 := rd) (b3 := rs1) (b4 := rs2) (b5 := im) (b6 := n) (fun ⟨e1, e2, e3, e4, e5, e6⟩ => hne ⟨by rw [e1, e2, e3, e4, e5], e6.symm⟩) W
  clear hne h
  generalize baseV o = bv at *
  generalize numR o im = nv at *
  unfold HeldT at hS0
  go_enter Tryz.func10, Tryz.ntmps10
  go_wp2_with fail
  generalize w.alloc (.cells #[.int .i64 o, .int .i64 rd, .int .i64 rs1, .int .i64 rs2, .int .i64 im, .int .i64 n] 23) = W at *
  generalize w.heap.size = b at *
  go_region_held3 (fun w' => w'.cell? ⟨b, 0, none⟩ = some (.int .i64 o) ∧ w'.cell? ⟨b, 1, none⟩ = some (.int .i64 rd) ∧ w'.cell? ⟨b, 2, none⟩ = some (.int .i64 rs1) ∧ w'.cell? ⟨b, 3, none⟩ = some (.int .i64 rs2) ∧ w'.cell? ⟨b, 4, none⟩ = some (.int .i64 im) ∧ w'.cell? ⟨b, 5, none⟩ = some (.int .i64 n) ∧ Row w' b 23 [.int .i64 o, .int .i64 rd, .int .i64 rs1, .int .i64 rs2, .int .i64 im, .int .i64 n] ∧ Tabs w' ∧ w.grownBy w' none)
    (first | assumption | (exact HeldT.on (gr_drew (gr_refl _ none)) (by assumption)) | (exact HeldT.on (by assumption) (by assumption)))
    (first
      | (go_at_call 20; refine (HB.out _).mono ?_; rintro e w' ⟨rfl, hg⟩)
      | (go_at_call 21; refine (HN.out _).mono ?_; rintro e w' ⟨rfl, hg⟩))
  rename_i wS hHeld
  have HS := Lib.hid hHeld
  obtain ⟨c0, c1, c2, c3, c4, c5, _, _, _⟩ := hHeld
  go_wp2_with fail
  rw [HL.out]
  have hS0 := HS.out
  clear c0 c1 c2 c3 c4 c5 HL HB HN HS
  unfold HeldT at hS0
  go_wp2_with fail
  go_region_held3 (fun w' => w'.cell? ⟨b, 0, none⟩ = some (.int .i64 o) ∧ w'.cell? ⟨b, 1, none⟩ = some (.int .i64 rd) ∧ w'.cell? ⟨b, 2, none⟩ = some (.int .i64 rs1) ∧ w'.cell? ⟨b, 3, none⟩ = some (.int .i64 rs2) ∧ w'.cell? ⟨b, 4, none⟩ = some (.int .i64 im) ∧ w'.cell? ⟨b, 5, none⟩ = some (.int .i64 n) ∧ Row w' b 23 [.int .i64 o, .int .i64 rd, .int .i64 rs1, .int .i64 rs2, .int .i64 im, .int .i64 n] ∧ Tabs w' ∧ w.grownBy w' none)
    (first | assumption | (exact HeldT.on (gr_drew (gr_refl _ none)) (by assumption)) | (exact HeldT.on (by assumption) (by assumption)))
    ((go_at_call 15; refine (HW.out _).mono ?_; rintro e w' ⟨rfl, hg⟩; simp only [insn]))
  rename_i hHeld
  have hBe := HeldT.gr hHeld
  clear hHeld
  go_wp2_with fail
  go_ret2
  exact ⟨rfl, hBe⟩
set_option maxHeartbeats 4000000 in
theorem rWordE_yes (o rd rs1 rs2 im : Int) (ho : I64 o) (hi : I64 im) (h0 : (o == 0) = false) (h : okE o rd rs1 rs2 im 4 = true) (w : World) (hT : Tabs w) :
    Calls Tryz.prog 10 #[E.six o rd rs1 rs2 im 4] w fun e w' => e = .returned (.tuple #[.int .u32 (layR o rd rs1 rs2 im : Nat), .bool true]) ∧ w.grownBy w' none := by
  have hS0 := heldT_new w hT o rd rs1 rs2 im 4
  have HB := Lib.hid (fun W => base_c o ho W)
  have HN := Lib.hid (fun W => number_c o rd rs1 rs2 im 4 ho hi W)
  have HL := Lib.hid (layR_bits o rd rs1 rs2 im)
  have g1 := and31i rd
  have g2 := and31i rs1
  have g3 := and31i rs2
  have HW := Lib.hid (fun W => rWord_at (layR_lt o rd rs1 rs2 im) ((ref_ok o rd rs1 rs2 im 4).2 h).1 W)
  clear h
  generalize layR o rd rs1 rs2 im = v at *
  generalize baseV o = bv at *
  generalize numR o im = nv at *
  unfold HeldT at hS0
  go_enter Tryz.func10, Tryz.ntmps10
  go_wp2_with fail
  generalize w.alloc (.cells #[.int .i64 o, .int .i64 rd, .int .i64 rs1, .int .i64 rs2, .int .i64 im, .int .i64 4] 23) = W at *
  generalize w.heap.size = b at *
  go_region_held3 (fun w' => w'.cell? ⟨b, 0, none⟩ = some (.int .i64 o) ∧ w'.cell? ⟨b, 1, none⟩ = some (.int .i64 rd) ∧ w'.cell? ⟨b, 2, none⟩ = some (.int .i64 rs1) ∧ w'.cell? ⟨b, 3, none⟩ = some (.int .i64 rs2) ∧ w'.cell? ⟨b, 4, none⟩ = some (.int .i64 im) ∧ w'.cell? ⟨b, 5, none⟩ = some (.int .i64 4) ∧ Row w' b 23 [.int .i64 o, .int .i64 rd, .int .i64 rs1, .int .i64 rs2, .int .i64 im, .int .i64 4] ∧ Tabs w' ∧ w.grownBy w' none)
    (first | assumption | (exact HeldT.on (gr_drew (gr_refl _ none)) (by assumption)) | (exact HeldT.on (by assumption) (by assumption)))
    (first
      | (go_at_call 20; refine (HB.out _).mono ?_; rintro e w' ⟨rfl, hg⟩)
      | (go_at_call 21; refine (HN.out _).mono ?_; rintro e w' ⟨rfl, hg⟩))
  rename_i wS hHeld
  have HS := Lib.hid hHeld
  obtain ⟨c0, c1, c2, c3, c4, c5, _, _, _⟩ := hHeld
  go_wp2_with fail
  rw [HL.out]
  have hS0 := HS.out
  clear c0 c1 c2 c3 c4 c5 HL HB HN HS
  unfold HeldT at hS0
  go_wp2_with fail
  go_region_held3 (fun w' => w'.cell? ⟨b, 0, none⟩ = some (.int .i64 o) ∧ w'.cell? ⟨b, 1, none⟩ = some (.int .i64 rd) ∧ w'.cell? ⟨b, 2, none⟩ = some (.int .i64 rs1) ∧ w'.cell? ⟨b, 3, none⟩ = some (.int .i64 rs2) ∧ w'.cell? ⟨b, 4, none⟩ = some (.int .i64 im) ∧ w'.cell? ⟨b, 5, none⟩ = some (.int .i64 4) ∧ Row w' b 23 [.int .i64 o, .int .i64 rd, .int .i64 rs1, .int .i64 rs2, .int .i64 im, .int .i64 4] ∧ Tabs w' ∧ w.grownBy w' none)
    (first | assumption | (exact HeldT.on (gr_drew (gr_refl _ none)) (by assumption)) | (exact HeldT.on (by assumption) (by assumption)))
    ((go_at_call 15; refine (HW.out _).mono ?_; rintro e w' ⟨rfl, hg⟩))
  rename_i hHeld
  have hBe := HeldT.gr hHeld
  clear hHeld
  go_wp2_with fail
  go_ret2
  exact ⟨rfl, hBe⟩
set_option maxHeartbeats 4000000 in
theorem zero_at (rd rs1 rs2 im n : Int) (hi : I64 im) (r : Bool) (hr : (rd = 0 ∧ rs1 = 0 ∧ rs2 = 0 ∧ im = 0 ∧ n = 4 ∧ r = true) ∨ ((rd == 0) = false ∧ r = false) ∨ (rd = 0 ∧ (rs1 == 0) = false ∧ r = false) ∨ (rd = 0 ∧ rs1 = 0 ∧ (rs2 == 0) = false ∧ r = false) ∨ (rd = 0 ∧ rs1 = 0 ∧ rs2 = 0 ∧ (im == 0) = false ∧ r = false) ∨ (rd = 0 ∧ rs1 = 0 ∧ rs2 = 0 ∧ im = 0 ∧ (n == 4) = false ∧ r = false)) (w : World) (hT : Tabs w) :
    Calls Tryz.prog 10 #[E.six 0 rd rs1 rs2 im n] w fun e w' => e = .returned (.tuple #[.int .u32 0, .bool r]) ∧ w.grownBy w' none := by
  have hS0 := heldT_new w hT 0 rd rs1 rs2 im n
  have HB := Lib.hid (fun W => base_c 0 (by decide) W)
  have HN := Lib.hid (fun W => number_c 0 rd rs1 rs2 im n (by decide) hi W)
  have HL := Lib.hid (layR_bits 0 rd rs1 rs2 im)
  have g1 := and31i rd
  have g2 := and31i rs1
  have g3 := and31i rs2
  generalize layR 0 rd rs1 rs2 im = v at *
  generalize baseV 0 = bv at *
  generalize numR 0 im = nv at *
  unfold HeldT at hS0
  go_enter Tryz.func10, Tryz.ntmps10
  go_wp2_with fail
  generalize w.alloc (.cells #[.int .i64 0, .int .i64 rd, .int .i64 rs1, .int .i64 rs2, .int .i64 im, .int .i64 n] 23) = W at *
  generalize w.heap.size = b at *
  go_region_held3 (fun w' => w'.cell? ⟨b, 0, none⟩ = some (.int .i64 0) ∧ w'.cell? ⟨b, 1, none⟩ = some (.int .i64 rd) ∧ w'.cell? ⟨b, 2, none⟩ = some (.int .i64 rs1) ∧ w'.cell? ⟨b, 3, none⟩ = some (.int .i64 rs2) ∧ w'.cell? ⟨b, 4, none⟩ = some (.int .i64 im) ∧ w'.cell? ⟨b, 5, none⟩ = some (.int .i64 n) ∧ Row w' b 23 [.int .i64 0, .int .i64 rd, .int .i64 rs1, .int .i64 rs2, .int .i64 im, .int .i64 n] ∧ Tabs w' ∧ w.grownBy w' none)
    (first | assumption | (exact HeldT.on (gr_drew (gr_refl _ none)) (by assumption)) | (exact HeldT.on (by assumption) (by assumption)))
    (first
      | (go_at_call 20; refine (HB.out _).mono ?_; rintro e w' ⟨rfl, hg⟩)
      | (go_at_call 21; refine (HN.out _).mono ?_; rintro e w' ⟨rfl, hg⟩))
  rename_i wS hHeld
  have HS := Lib.hid hHeld
  obtain ⟨c0, c1, c2, c3, c4, c5, _, _, _⟩ := hHeld
  go_wp2_with fail
  have HG := Lib.hid (HeldT.gr HS.out)
  clear HS HL HB HN g1 g2 g3
  rcases hr with ⟨rfl, rfl, rfl, rfl, rfl, rfl⟩ | ⟨q, rfl⟩ | ⟨rfl, q, rfl⟩ | ⟨rfl, rfl, q, rfl⟩ | ⟨rfl, rfl, rfl, q, rfl⟩ | ⟨rfl, rfl, rfl, rfl, q, rfl⟩
  all_goals
    go_quiet (fail)
    go_wp2_with fail
    go_ret2
    exact ⟨rfl, gr_drewN HG.out _⟩
theorem rWordE_c (o rd rs1 rs2 im n : Int) (ho : I64 o) (hi : I64 im) (w : World) (hT : Tabs w) :
    Calls Tryz.prog 10 #[E.six o rd rs1 rs2 im n] w fun e w' => e = .returned (.tuple #[.int .u32 (wordE o rd rs1 rs2 im n : Nat), .bool (okE o rd rs1 rs2 im n)]) ∧ w.grownBy w' none := by
  by_cases h0 : o = 0
  · subst h0
    obtain ⟨z1, z2⟩ := ref_zero rd rs1 rs2 im n
    rw [z1, z2]
    refine zero_at rd rs1 rs2 im n hi _ ?_ w hT
    by_cases a1 : rd = 0
    · by_cases a2 : rs1 = 0
      · by_cases a3 : rs2 = 0
        · by_cases a4 : im = 0
          · by_cases a5 : n = 4
            · exact Or.inl ⟨a1, a2, a3, a4, a5, decide_eq_true ⟨a1, a2, a3, a4, a5⟩⟩
            · exact Or.inr (Or.inr (Or.inr (Or.inr (Or.inr ⟨a1, a2, a3, a4, by simpa using a5, decide_eq_false fun e => a5 e.2.2.2.2⟩))))
          · exact Or.inr (Or.inr (Or.inr (Or.inr (Or.inl ⟨a1, a2, a3, by simpa using a4, decide_eq_false fun e => a4 e.2.2.2.1⟩))))
        · exact Or.inr (Or.inr (Or.inr (Or.inl ⟨a1, a2, by simpa using a3, decide_eq_false fun e => a3 e.2.2.1⟩)))
      · exact Or.inr (Or.inr (Or.inl ⟨a1, by simpa using a2, decide_eq_false fun e => a2 e.2.1⟩))
    · exact Or.inr (Or.inl ⟨by simpa using a1, decide_eq_false fun e => a1 e.1⟩)
  · have h0' : (o == 0) = false := by simpa using h0
    cases h : okE o rd rs1 rs2 im n
    · rw [wordE, h]
      exact rWordE_no o rd rs1 rs2 im n ho hi h0' h w hT
    · rw [ref_word h]
      obtain rfl := ((okE_iff o rd rs1 rs2 im n).1 h).2
      exact rWordE_yes o rd rs1 rs2 im ho hi h0' h w hT
end Go.Proofs.YtpbeamnogfjagaaGreatDoor.refEnc
end
