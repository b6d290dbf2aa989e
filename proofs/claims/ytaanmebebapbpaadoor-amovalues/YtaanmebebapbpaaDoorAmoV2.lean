/-
  The walks of the law AmoValues, of 32 bits: the smaller and the greater.
  Conditions: the table of package decode's kinds holds what its text lays.
-/
import Derived.Lib.Hide
import Derived.Deep.RegionHeld3
import Derived.Test.YtaanmebebapbpaaDoorAmoLaw
import Derived.Test.YtaanmebebapbpaaDoorAmoZ
namespace Go.Proofs.YtaanmebebapbpaaDoor.amoValues
open Go Go.RowKit W M D A
set_option linter.unusedVariables false
set_option maxRecDepth 100000

set_option maxHeartbeats 4000000 in
theorem v_s7p (w : World) (hL : Tbl w) (a b A B c o j : Int) (ha : B64 a) (hb : B64 b) (hA : 0 ≤ A ∧ A ≤ 4294967295) (hB : 0 ≤ B ∧ B ≤ 4294967295) (hc : 0 ≤ c ∧ c ≤ 255) (hop : 76 + c % 22 = o) (hj : (o - 76) % 11 = j) (hl : 83 ≤ o ∧ o ≤ 86) (hjl : 7 ≤ j ∧ j ≤ 10) (hn : newV o a b = a % 4294967296) :
    Calls Tryd.prog 5 #[.int .u64 a, .int .u64 b, .agg #[.int .u32 A, .int .u32 B, .int .u8 c]] w fun e w' => e = .returned (.bool true) ∧ Below w.heap.size w w' := by
  have Z0 := gr_alloc (gr_refl w none) (.cells #[.int .u32 A, .int .u32 B, .int .u8 c] 49)
  have L0 := Lib.hid (hL.grown Z0)
  have HZ0 := Lib.hid Z0
  have R0 := Lib.hid (Row.fresh w 49 [.int .u32 A, .int .u32 B, .int .u8 c])
  have HN := Lib.hid (fun W h => New_c o a b (by omega) ha hb W h)
  have HS := Lib.hid (fun W h => Size_c o (by omega) W h)
  rw [show szV o = 4 from sz_small o (by omega)] at HS
  have hx : B64 (a % 4294967296 + A * 4294967296) := by unfold B64; omega
  have hy : B64 (b % 4294967296 + B * 4294967296) := by unfold B64; omega
  have HO := Lib.hid (fun W h => New_c o (a % 4294967296 + A * 4294967296) (b % 4294967296 + B * 4294967296) (by omega) hx hy W h)
  rw [small_cong o a b _ _ (k13 o (by omega)) (show (a % 4294967296 + A * 4294967296) % 4294967296 = a % 4294967296 by omega) (show (b % 4294967296 + B * 4294967296) % 4294967296 = b % 4294967296 by omega)] at HO
  have hbd := small_bd o a b (k13 o (by omega))
  clear hx hy
  have HC := Lib.hid (fun W h => New_c o b a (by omega) hb ha W h)
  rw [small_comm o a b ha hb (by omega)] at HC
  unfold B64 at *
  generalize newV o a b = n at *
  subst hn
  have j0 : 0 < j := by omega
  have j1 : (j == 0) = false := by simp; omega
  have j2 : decide (j ≤ 2) = false := by simp; omega
  have j7 : j ≥ 7 := by omega
  clear hL Z0
  go_enter Tryd.func5, Tryd.ntmps5
  go_wp2_with fail
  refine (shown08_c _ L0.out).mono ?_
  rintro e w1 ⟨rfl, g1⟩
  have R1 := Lib.hid (R0.out.grown g1 (by simp))
  have c0 := R1.out.cell 0
  have c1 := R1.out.cell 1
  have c2 := R1.out.cell 2
  simp only [List.getElem?_cons_zero, List.getElem?_cons_succ] at c0 c1 c2
  have L1 := Lib.hid (L0.out.grown g1)
  go_wp2_with fail
  refine (HN.out _ L1.out).mono ?_
  rintro e w2 ⟨rfl, g2⟩
  have R2 := Lib.hid (R1.out.grown g2 (by simp))
  have d0 := R2.out.cell 0
  have d1 := R2.out.cell 1
  simp only [List.getElem?_cons_zero, List.getElem?_cons_succ] at d0 d1
  have L2 := Lib.hid (L1.out.grown g2)
  have GG := Lib.hid (gr_trans (gr_trans HZ0.out g1) g2)
  clear c0 c1 c2 g1 g2 L1 L0 HZ0 R0 R1 R2
  go_wp2_with fail
  refine (HS.out _ L2.out).mono ?_
  rintro e w' ⟨rfl, rfl⟩
  go_wp2_with fail
  refine (HO.out _ L2.out).mono ?_
  rintro e w3 ⟨rfl, g3⟩
  have L3 := Lib.hid (L2.out.grown g3)
  clear d0 d1
  go_wp2_with fail
  refine (HC.out _ L3.out).mono ?_
  rintro e w4 ⟨rfl, g4⟩
  go_wp2_with fail
  go_ret
  exact ⟨rfl, gr_below (gr_trans (gr_trans GG.out g3) g4)⟩
set_option maxHeartbeats 4000000 in
theorem v_s7q (w : World) (hL : Tbl w) (a b A B c o j : Int) (ha : B64 a) (hb : B64 b) (hA : 0 ≤ A ∧ A ≤ 4294967295) (hB : 0 ≤ B ∧ B ≤ 4294967295) (hc : 0 ≤ c ∧ c ≤ 255) (hop : 76 + c % 22 = o) (hj : (o - 76) % 11 = j) (hl : 83 ≤ o ∧ o ≤ 86) (hjl : 7 ≤ j ∧ j ≤ 10) (hn : newV o a b = b % 4294967296) (hne : b % 4294967296 ≠ a % 4294967296) :
    Calls Tryd.prog 5 #[.int .u64 a, .int .u64 b, .agg #[.int .u32 A, .int .u32 B, .int .u8 c]] w fun e w' => e = .returned (.bool true) ∧ Below w.heap.size w w' := by
  have Z0 := gr_alloc (gr_refl w none) (.cells #[.int .u32 A, .int .u32 B, .int .u8 c] 49)
  have L0 := Lib.hid (hL.grown Z0)
  have HZ0 := Lib.hid Z0
  have R0 := Lib.hid (Row.fresh w 49 [.int .u32 A, .int .u32 B, .int .u8 c])
  have HN := Lib.hid (fun W h => New_c o a b (by omega) ha hb W h)
  have HS := Lib.hid (fun W h => Size_c o (by omega) W h)
  rw [show szV o = 4 from sz_small o (by omega)] at HS
  have hx : B64 (a % 4294967296 + A * 4294967296) := by unfold B64; omega
  have hy : B64 (b % 4294967296 + B * 4294967296) := by unfold B64; omega
  have HO := Lib.hid (fun W h => New_c o (a % 4294967296 + A * 4294967296) (b % 4294967296 + B * 4294967296) (by omega) hx hy W h)
  rw [small_cong o a b _ _ (k13 o (by omega)) (show (a % 4294967296 + A * 4294967296) % 4294967296 = a % 4294967296 by omega) (show (b % 4294967296 + B * 4294967296) % 4294967296 = b % 4294967296 by omega)] at HO
  have hbd := small_bd o a b (k13 o (by omega))
  clear hx hy
  have HC := Lib.hid (fun W h => New_c o b a (by omega) hb ha W h)
  rw [small_comm o a b ha hb (by omega)] at HC
  unfold B64 at *
  generalize newV o a b = n at *
  subst hn
  have dne : ((b % 4294967296) != (a % 4294967296)) = true := by simpa using hne
  clear hne
  have j0 : 0 < j := by omega
  have j1 : (j == 0) = false := by simp; omega
  have j2 : decide (j ≤ 2) = false := by simp; omega
  have j7 : j ≥ 7 := by omega
  clear hL Z0
  go_enter Tryd.func5, Tryd.ntmps5
  go_wp2_with fail
  refine (shown08_c _ L0.out).mono ?_
  rintro e w1 ⟨rfl, g1⟩
  have R1 := Lib.hid (R0.out.grown g1 (by simp))
  have c0 := R1.out.cell 0
  have c1 := R1.out.cell 1
  have c2 := R1.out.cell 2
  simp only [List.getElem?_cons_zero, List.getElem?_cons_succ] at c0 c1 c2
  have L1 := Lib.hid (L0.out.grown g1)
  go_wp2_with fail
  refine (HN.out _ L1.out).mono ?_
  rintro e w2 ⟨rfl, g2⟩
  have R2 := Lib.hid (R1.out.grown g2 (by simp))
  have d0 := R2.out.cell 0
  have d1 := R2.out.cell 1
  simp only [List.getElem?_cons_zero, List.getElem?_cons_succ] at d0 d1
  have L2 := Lib.hid (L1.out.grown g2)
  have GG := Lib.hid (gr_trans (gr_trans HZ0.out g1) g2)
  clear c0 c1 c2 g1 g2 L1 L0 HZ0 R0 R1 R2
  go_wp2_with fail
  refine (HS.out _ L2.out).mono ?_
  rintro e w' ⟨rfl, rfl⟩
  go_wp2_with fail
  refine (HO.out _ L2.out).mono ?_
  rintro e w3 ⟨rfl, g3⟩
  have L3 := Lib.hid (L2.out.grown g3)
  clear d0 d1
  go_wp2_with fail
  refine (HC.out _ L3.out).mono ?_
  rintro e w4 ⟨rfl, g4⟩
  go_wp2_with fail
  go_ret
  exact ⟨rfl, gr_below (gr_trans (gr_trans GG.out g3) g4)⟩
end Go.Proofs.YtaanmebebapbpaaDoor.amoValues
