/-
  Proved: for any half, the law CompFields returns true: registers are 0 to 31, numbers small, and even where they are jumped by, and multiples of how many bytes are moved; and one that is none has nothing but its length.
  Conditions: none beyond the statement's own.
-/
import Derived.Test.YthdjbmajdbfebaaRows
import Derived.Test.YthdjbmajdbfebaaOpen
import Derived.Lib.Hide
import Derived.Test.YthdjbmajdbfebaaCompI
import Derived.Test.YthdjbmajdbfebaaDecR
namespace Go.Proofs.Ythdjbmajdbfebaa.compFields
open Go Go.ChangeShapes Go.WideShapes Go.ChangeAt Go.RowKit F W M D
set_option linter.unusedVariables false

theorem no_lt {a b : Int} (h : ¬ a < b) : decide (a < b) = false := by simpa using h
theorem no_le {a b : Int} (h : ¬ a ≤ b) : decide (a ≤ b) = false := by simpa using h
theorem tmod_zero (n m : Int) (h : n % m = 0) : n.tmod m = 0 := by
  obtain ⟨j, rfl⟩ := Int.dvd_of_emod_eq_zero h
  exact Int.mul_tmod_right _ _
set_option maxRecDepth 100000 in
set_option maxHeartbeats 4000000 in
theorem way_none (h : Nat) (hh : h < 65536)  (hV : halfV h = (0, 0, 0, 0, 0)) (w : World) :
    Calls Try.prog 3 #[.int .u16 h] w fun e w' => e = .returned (.bool true) ∧ Below w.heap.size w w' := by
  have HW := Lib.hid (fun W => Half_at hh hV W)
  clear hV
  have HK := Lib.hid (show kindV 0 = 0 from by decide)
  have e2 : (0 : Int).tmod 2 = 0 := by decide
  go_enter Try.func3, Try.ntmps3
  go_wp2_with fail
  refine (shown05_c _).mono ?_
  rintro e w1 ⟨rfl, hG1⟩
  go_wp2_with fail
  refine (HW.out _).mono ?_
  rintro e w2 ⟨rfl, hG2⟩
  go_wp2_with fail
  refine (rKind_c 0 (by omega) _).mono ?_
  rintro e w3 ⟨rfl, hG3⟩
  rw [HK.out]
  have hX := Lib.hid ((Row.fresh w2 25 [.int .i64 0, .int .i64 0, .int .i64 0, .int .i64 0, .int .i64 0, .int .i64 2]).grown hG3 (by simp))
  have x0 := hX.out.cell 0; have x1 := hX.out.cell 1; have x2 := hX.out.cell 2; have x3 := hX.out.cell 3; have x4 := hX.out.cell 4
  simp only [List.getElem?_cons_zero, List.getElem?_cons_succ] at x0 x1 x2 x3 x4
  have HG := Lib.hid (gr_below (gr_trans (gr_alloc (gr_trans hG1 hG2) _) hG3))
  clear hG1 hG2 hG3
  go_wp2_with fail
  all_goals
    go_ret
    exact ⟨rfl, HG.out⟩
set_option maxRecDepth 100000 in
set_option maxHeartbeats 4000000 in
theorem way_1 (h : Nat) (hh : h < 65536) (hq : h % 4 ≠ 3) (o rd rs1 rs2 im : Int) (ho : 1 ≤ o ∧ o ≤ 4) (h_rd : 0 ≤ rd ∧ rd ≤ 31) (h_rs1 : 0 ≤ rs1 ∧ rs1 ≤ 31) (h_rs2 : 0 ≤ rs2 ∧ rs2 ≤ 31) (h_im : -131072 ≤ im ∧ im < 131072) (hm : im % 2 = 0) (hV : halfV h = (o, rd, rs1, rs2, im)) (w : World) :
    Calls Try.prog 3 #[.int .u16 h] w fun e w' => e = .returned (.bool true) ∧ Below w.heap.size w w' := by
  have HW := Lib.hid (fun W => Half_at hh hV W)
  clear hV
  have HK := Lib.hid (show kindV o = 1 from kind_at o 1 (by decide) (show o ≤ 4 by omega) (Or.inr (show (0 : Int) < o by omega)))
  have e2 := tmod_zero im 2 hm
  have q4 : ((h : Int) % 4 != 3) = true := by simp; omega
  have a0 : decide (rd < 0) = false := no_lt (by omega)
  have b0 : decide (31 < rd) = false := no_lt (by omega)
  have a1 : decide (rs1 < 0) = false := no_lt (by omega)
  have b1 : decide (31 < rs1) = false := no_lt (by omega)
  have a2 : decide (rs2 < 0) = false := no_lt (by omega)
  have b2 : decide (31 < rs2) = false := no_lt (by omega)
  have a4 : decide (im < -131072) = false := no_lt (by omega)
  have b4 : decide (131072 ≤ im) = false := no_le (by omega)
  go_enter Try.func3, Try.ntmps3
  go_wp2_with fail
  refine (shown05_c _).mono ?_
  rintro e w1 ⟨rfl, hG1⟩
  go_wp2_with fail
  refine (HW.out _).mono ?_
  rintro e w2 ⟨rfl, hG2⟩
  go_wp2_with fail
  refine (rKind_c o (by omega) _).mono ?_
  rintro e w3 ⟨rfl, hG3⟩
  rw [HK.out]
  have hX := Lib.hid ((Row.fresh w2 25 [.int .i64 o, .int .i64 rd, .int .i64 rs1, .int .i64 rs2, .int .i64 im, .int .i64 2]).grown hG3 (by simp))
  have x0 := hX.out.cell 0; have x1 := hX.out.cell 1; have x2 := hX.out.cell 2; have x3 := hX.out.cell 3; have x4 := hX.out.cell 4
  simp only [List.getElem?_cons_zero, List.getElem?_cons_succ] at x0 x1 x2 x3 x4
  have HG := Lib.hid (gr_below (gr_trans (gr_alloc (gr_trans hG1 hG2) _) hG3))
  clear hG1 hG2 hG3
  go_wp2_with fail
  all_goals
    go_ret
    exact ⟨rfl, HG.out⟩
set_option maxRecDepth 100000 in
set_option maxHeartbeats 4000000 in
theorem way_2 (h : Nat) (hh : h < 65536) (hq : h % 4 ≠ 3) (o rd rs1 rs2 im : Int) (ho : 5 ≤ o ∧ o ≤ 6) (h_rd : 0 ≤ rd ∧ rd ≤ 31) (h_rs1 : 0 ≤ rs1 ∧ rs1 ≤ 31) (h_rs2 : 0 ≤ rs2 ∧ rs2 ≤ 31) (h_im : -131072 ≤ im ∧ im < 131072) (hm : im % 2 = 0) (hV : halfV h = (o, rd, rs1, rs2, im)) (w : World) :
    Calls Try.prog 3 #[.int .u16 h] w fun e w' => e = .returned (.bool true) ∧ Below w.heap.size w w' := by
  have HW := Lib.hid (fun W => Half_at hh hV W)
  clear hV
  have HK := Lib.hid (show kindV o = 2 from kind_at o 2 (by decide) (show o ≤ 10 by omega) (Or.inr (show (4 : Int) < o by omega)))
  have e2 := tmod_zero im 2 hm
  have q4 : ((h : Int) % 4 != 3) = true := by simp; omega
  have a0 : decide (rd < 0) = false := no_lt (by omega)
  have b0 : decide (31 < rd) = false := no_lt (by omega)
  have a1 : decide (rs1 < 0) = false := no_lt (by omega)
  have b1 : decide (31 < rs1) = false := no_lt (by omega)
  have a2 : decide (rs2 < 0) = false := no_lt (by omega)
  have b2 : decide (31 < rs2) = false := no_lt (by omega)
  have a4 : decide (im < -131072) = false := no_lt (by omega)
  have b4 : decide (131072 ≤ im) = false := no_le (by omega)
  go_enter Try.func3, Try.ntmps3
  go_wp2_with fail
  refine (shown05_c _).mono ?_
  rintro e w1 ⟨rfl, hG1⟩
  go_wp2_with fail
  refine (HW.out _).mono ?_
  rintro e w2 ⟨rfl, hG2⟩
  go_wp2_with fail
  refine (rKind_c o (by omega) _).mono ?_
  rintro e w3 ⟨rfl, hG3⟩
  rw [HK.out]
  have hX := Lib.hid ((Row.fresh w2 25 [.int .i64 o, .int .i64 rd, .int .i64 rs1, .int .i64 rs2, .int .i64 im, .int .i64 2]).grown hG3 (by simp))
  have x0 := hX.out.cell 0; have x1 := hX.out.cell 1; have x2 := hX.out.cell 2; have x3 := hX.out.cell 3; have x4 := hX.out.cell 4
  simp only [List.getElem?_cons_zero, List.getElem?_cons_succ] at x0 x1 x2 x3 x4
  have HG := Lib.hid (gr_below (gr_trans (gr_alloc (gr_trans hG1 hG2) _) hG3))
  clear hG1 hG2 hG3
  go_wp2_with fail
  all_goals
    go_ret
    exact ⟨rfl, HG.out⟩
set_option maxRecDepth 100000 in
set_option maxHeartbeats 4000000 in
theorem way_lw (h : Nat) (hh : h < 65536) (hq : h % 4 ≠ 3) (rd rs1 rs2 im : Int) (h_rd : 0 ≤ rd ∧ rd ≤ 31) (h_rs1 : 0 ≤ rs1 ∧ rs1 ≤ 31) (h_rs2 : 0 ≤ rs2 ∧ rs2 ≤ 31) (h_im : 0 ≤ im ∧ im < 512) (hm : im % 4 = 0) (hV : halfV h = (13, rd, rs1, rs2, im)) (w : World) :
    Calls Try.prog 3 #[.int .u16 h] w fun e w' => e = .returned (.bool true) ∧ Below w.heap.size w w' := by
  have HW := Lib.hid (fun W => Half_at hh hV W)
  clear hV
  have HK := Lib.hid (show kindV 13 = 3 from by decide)
  have e2 := tmod_zero im 4 hm
  have q4 : ((h : Int) % 4 != 3) = true := by simp; omega
  have a0 : decide (rd < 0) = false := no_lt (by omega)
  have b0 : decide (31 < rd) = false := no_lt (by omega)
  have a1 : decide (rs1 < 0) = false := no_lt (by omega)
  have b1 : decide (31 < rs1) = false := no_lt (by omega)
  have a2 : decide (rs2 < 0) = false := no_lt (by omega)
  have b2 : decide (31 < rs2) = false := no_lt (by omega)
  have a4 : decide (im < -131072) = false := no_lt (by omega)
  have b4 : decide (131072 ≤ im) = false := no_le (by omega)
  go_enter Try.func3, Try.ntmps3
  go_wp2_with fail
  refine (shown05_c _).mono ?_
  rintro e w1 ⟨rfl, hG1⟩
  go_wp2_with fail
  refine (HW.out _).mono ?_
  rintro e w2 ⟨rfl, hG2⟩
  go_wp2_with fail
  refine (rKind_c 13 (by omega) _).mono ?_
  rintro e w3 ⟨rfl, hG3⟩
  rw [HK.out]
  have hX := Lib.hid ((Row.fresh w2 25 [.int .i64 13, .int .i64 rd, .int .i64 rs1, .int .i64 rs2, .int .i64 im, .int .i64 2]).grown hG3 (by simp))
  have x0 := hX.out.cell 0; have x1 := hX.out.cell 1; have x2 := hX.out.cell 2; have x3 := hX.out.cell 3; have x4 := hX.out.cell 4
  simp only [List.getElem?_cons_zero, List.getElem?_cons_succ] at x0 x1 x2 x3 x4
  have HG := Lib.hid (gr_below (gr_trans (gr_alloc (gr_trans hG1 hG2) _) hG3))
  clear hG1 hG2 hG3
  go_wp2_with fail
  all_goals
    go_ret
    exact ⟨rfl, HG.out⟩
set_option maxRecDepth 100000 in
set_option maxHeartbeats 4000000 in
theorem way_sw (h : Nat) (hh : h < 65536) (hq : h % 4 ≠ 3) (rd rs1 rs2 im : Int) (h_rd : 0 ≤ rd ∧ rd ≤ 31) (h_rs1 : 0 ≤ rs1 ∧ rs1 ≤ 31) (h_rs2 : 0 ≤ rs2 ∧ rs2 ≤ 31) (h_im : 0 ≤ im ∧ im < 512) (hm : im % 4 = 0) (hV : halfV h = (20, rd, rs1, rs2, im)) (w : World) :
    Calls Try.prog 3 #[.int .u16 h] w fun e w' => e = .returned (.bool true) ∧ Below w.heap.size w w' := by
  have HW := Lib.hid (fun W => Half_at hh hV W)
  clear hV
  have HK := Lib.hid (show kindV 20 = 4 from by decide)
  have e2 := tmod_zero im 4 hm
  have q4 : ((h : Int) % 4 != 3) = true := by simp; omega
  have a0 : decide (rd < 0) = false := no_lt (by omega)
  have b0 : decide (31 < rd) = false := no_lt (by omega)
  have a1 : decide (rs1 < 0) = false := no_lt (by omega)
  have b1 : decide (31 < rs1) = false := no_lt (by omega)
  have a2 : decide (rs2 < 0) = false := no_lt (by omega)
  have b2 : decide (31 < rs2) = false := no_lt (by omega)
  have a4 : decide (im < -131072) = false := no_lt (by omega)
  have b4 : decide (131072 ≤ im) = false := no_le (by omega)
  go_enter Try.func3, Try.ntmps3
  go_wp2_with fail
  refine (shown05_c _).mono ?_
  rintro e w1 ⟨rfl, hG1⟩
  go_wp2_with fail
  refine (HW.out _).mono ?_
  rintro e w2 ⟨rfl, hG2⟩
  go_wp2_with fail
  refine (rKind_c 20 (by omega) _).mono ?_
  rintro e w3 ⟨rfl, hG3⟩
  rw [HK.out]
  have hX := Lib.hid ((Row.fresh w2 25 [.int .i64 20, .int .i64 rd, .int .i64 rs1, .int .i64 rs2, .int .i64 im, .int .i64 2]).grown hG3 (by simp))
  have x0 := hX.out.cell 0; have x1 := hX.out.cell 1; have x2 := hX.out.cell 2; have x3 := hX.out.cell 3; have x4 := hX.out.cell 4
  simp only [List.getElem?_cons_zero, List.getElem?_cons_succ] at x0 x1 x2 x3 x4
  have HG := Lib.hid (gr_below (gr_trans (gr_alloc (gr_trans hG1 hG2) _) hG3))
  clear hG1 hG2 hG3
  go_wp2_with fail
  all_goals
    go_ret
    exact ⟨rfl, HG.out⟩
set_option maxRecDepth 100000 in
set_option maxHeartbeats 4000000 in
theorem way_ld (h : Nat) (hh : h < 65536) (hq : h % 4 ≠ 3) (rd rs1 rs2 im : Int) (h_rd : 0 ≤ rd ∧ rd ≤ 31) (h_rs1 : 0 ≤ rs1 ∧ rs1 ≤ 31) (h_rs2 : 0 ≤ rs2 ∧ rs2 ≤ 31) (h_im : 0 ≤ im ∧ im < 512) (hm : im % 8 = 0) (hV : halfV h = (14, rd, rs1, rs2, im)) (w : World) :
    Calls Try.prog 3 #[.int .u16 h] w fun e w' => e = .returned (.bool true) ∧ Below w.heap.size w w' := by
  have HW := Lib.hid (fun W => Half_at hh hV W)
  clear hV
  have HK := Lib.hid (show kindV 14 = 3 from by decide)
  have e2 := tmod_zero im 8 hm
  have q4 : ((h : Int) % 4 != 3) = true := by simp; omega
  have a0 : decide (rd < 0) = false := no_lt (by omega)
  have b0 : decide (31 < rd) = false := no_lt (by omega)
  have a1 : decide (rs1 < 0) = false := no_lt (by omega)
  have b1 : decide (31 < rs1) = false := no_lt (by omega)
  have a2 : decide (rs2 < 0) = false := no_lt (by omega)
  have b2 : decide (31 < rs2) = false := no_lt (by omega)
  have a4 : decide (im < -131072) = false := no_lt (by omega)
  have b4 : decide (131072 ≤ im) = false := no_le (by omega)
  go_enter Try.func3, Try.ntmps3
  go_wp2_with fail
  refine (shown05_c _).mono ?_
  rintro e w1 ⟨rfl, hG1⟩
  go_wp2_with fail
  refine (HW.out _).mono ?_
  rintro e w2 ⟨rfl, hG2⟩
  go_wp2_with fail
  refine (rKind_c 14 (by omega) _).mono ?_
  rintro e w3 ⟨rfl, hG3⟩
  rw [HK.out]
  have hX := Lib.hid ((Row.fresh w2 25 [.int .i64 14, .int .i64 rd, .int .i64 rs1, .int .i64 rs2, .int .i64 im, .int .i64 2]).grown hG3 (by simp))
  have x0 := hX.out.cell 0; have x1 := hX.out.cell 1; have x2 := hX.out.cell 2; have x3 := hX.out.cell 3; have x4 := hX.out.cell 4
  simp only [List.getElem?_cons_zero, List.getElem?_cons_succ] at x0 x1 x2 x3 x4
  have HG := Lib.hid (gr_below (gr_trans (gr_alloc (gr_trans hG1 hG2) _) hG3))
  clear hG1 hG2 hG3
  go_wp2_with fail
  all_goals
    go_ret
    exact ⟨rfl, HG.out⟩
set_option maxRecDepth 100000 in
set_option maxHeartbeats 4000000 in
theorem way_sd (h : Nat) (hh : h < 65536) (hq : h % 4 ≠ 3) (rd rs1 rs2 im : Int) (h_rd : 0 ≤ rd ∧ rd ≤ 31) (h_rs1 : 0 ≤ rs1 ∧ rs1 ≤ 31) (h_rs2 : 0 ≤ rs2 ∧ rs2 ≤ 31) (h_im : 0 ≤ im ∧ im < 512) (hm : im % 8 = 0) (hV : halfV h = (21, rd, rs1, rs2, im)) (w : World) :
    Calls Try.prog 3 #[.int .u16 h] w fun e w' => e = .returned (.bool true) ∧ Below w.heap.size w w' := by
  have HW := Lib.hid (fun W => Half_at hh hV W)
  clear hV
  have HK := Lib.hid (show kindV 21 = 4 from by decide)
  have e2 := tmod_zero im 8 hm
  have q4 : ((h : Int) % 4 != 3) = true := by simp; omega
  have a0 : decide (rd < 0) = false := no_lt (by omega)
  have b0 : decide (31 < rd) = false := no_lt (by omega)
  have a1 : decide (rs1 < 0) = false := no_lt (by omega)
  have b1 : decide (31 < rs1) = false := no_lt (by omega)
  have a2 : decide (rs2 < 0) = false := no_lt (by omega)
  have b2 : decide (31 < rs2) = false := no_lt (by omega)
  have a4 : decide (im < -131072) = false := no_lt (by omega)
  have b4 : decide (131072 ≤ im) = false := no_le (by omega)
  go_enter Try.func3, Try.ntmps3
  go_wp2_with fail
  refine (shown05_c _).mono ?_
  rintro e w1 ⟨rfl, hG1⟩
  go_wp2_with fail
  refine (HW.out _).mono ?_
  rintro e w2 ⟨rfl, hG2⟩
  go_wp2_with fail
  refine (rKind_c 21 (by omega) _).mono ?_
  rintro e w3 ⟨rfl, hG3⟩
  rw [HK.out]
  have hX := Lib.hid ((Row.fresh w2 25 [.int .i64 21, .int .i64 rd, .int .i64 rs1, .int .i64 rs2, .int .i64 im, .int .i64 2]).grown hG3 (by simp))
  have x0 := hX.out.cell 0; have x1 := hX.out.cell 1; have x2 := hX.out.cell 2; have x3 := hX.out.cell 3; have x4 := hX.out.cell 4
  simp only [List.getElem?_cons_zero, List.getElem?_cons_succ] at x0 x1 x2 x3 x4
  have HG := Lib.hid (gr_below (gr_trans (gr_alloc (gr_trans hG1 hG2) _) hG3))
  clear hG1 hG2 hG3
  go_wp2_with fail
  all_goals
    go_ret
    exact ⟨rfl, HG.out⟩
set_option maxRecDepth 100000 in
set_option maxHeartbeats 4000000 in
theorem way_5 (h : Nat) (hh : h < 65536) (hq : h % 4 ≠ 3) (o rd rs1 rs2 im : Int) (ho : 22 ≤ o ∧ o ≤ 30) (h_rd : 0 ≤ rd ∧ rd ≤ 31) (h_rs1 : 0 ≤ rs1 ∧ rs1 ≤ 31) (h_rs2 : 0 ≤ rs2 ∧ rs2 ≤ 31) (h_im : -512 ≤ im ∧ im < 1024) (hV : halfV h = (o, rd, rs1, rs2, im)) (w : World) :
    Calls Try.prog 3 #[.int .u16 h] w fun e w' => e = .returned (.bool true) ∧ Below w.heap.size w w' := by
  have HW := Lib.hid (fun W => Half_at hh hV W)
  clear hV
  have HK := Lib.hid (show kindV o = 5 from kind_at o 5 (by decide) (show o ≤ 30 by omega) (Or.inr (show (21 : Int) < o by omega)))
  have q4 : ((h : Int) % 4 != 3) = true := by simp; omega
  have a0 : decide (rd < 0) = false := no_lt (by omega)
  have b0 : decide (31 < rd) = false := no_lt (by omega)
  have a1 : decide (rs1 < 0) = false := no_lt (by omega)
  have b1 : decide (31 < rs1) = false := no_lt (by omega)
  have a2 : decide (rs2 < 0) = false := no_lt (by omega)
  have b2 : decide (31 < rs2) = false := no_lt (by omega)
  have a4 : decide (im < -131072) = false := no_lt (by omega)
  have b4 : decide (131072 ≤ im) = false := no_le (by omega)
  go_enter Try.func3, Try.ntmps3
  go_wp2_with fail
  refine (shown05_c _).mono ?_
  rintro e w1 ⟨rfl, hG1⟩
  go_wp2_with fail
  refine (HW.out _).mono ?_
  rintro e w2 ⟨rfl, hG2⟩
  go_wp2_with fail
  refine (rKind_c o (by omega) _).mono ?_
  rintro e w3 ⟨rfl, hG3⟩
  rw [HK.out]
  have hX := Lib.hid ((Row.fresh w2 25 [.int .i64 o, .int .i64 rd, .int .i64 rs1, .int .i64 rs2, .int .i64 im, .int .i64 2]).grown hG3 (by simp))
  have x0 := hX.out.cell 0; have x1 := hX.out.cell 1; have x2 := hX.out.cell 2; have x3 := hX.out.cell 3; have x4 := hX.out.cell 4
  simp only [List.getElem?_cons_zero, List.getElem?_cons_succ] at x0 x1 x2 x3 x4
  have HG := Lib.hid (gr_below (gr_trans (gr_alloc (gr_trans hG1 hG2) _) hG3))
  clear hG1 hG2 hG3
  go_wp2_with fail
  all_goals
    go_ret
    exact ⟨rfl, HG.out⟩
set_option maxRecDepth 100000 in
set_option maxHeartbeats 4000000 in
theorem way_7 (h : Nat) (hh : h < 65536) (hq : h % 4 ≠ 3) (rd rs1 rs2 im : Int) (h_rd : 0 ≤ rd ∧ rd ≤ 31) (h_rs1 : 0 ≤ rs1 ∧ rs1 ≤ 31) (h_rs2 : 0 ≤ rs2 ∧ rs2 ≤ 31) (h_im : -512 ≤ im ∧ im < 1024) (hV : halfV h = (41, rd, rs1, rs2, im)) (w : World) :
    Calls Try.prog 3 #[.int .u16 h] w fun e w' => e = .returned (.bool true) ∧ Below w.heap.size w w' := by
  have HW := Lib.hid (fun W => Half_at hh hV W)
  clear hV
  have HK := Lib.hid (show kindV 41 = 7 from by decide)
  have q4 : ((h : Int) % 4 != 3) = true := by simp; omega
  have a0 : decide (rd < 0) = false := no_lt (by omega)
  have b0 : decide (31 < rd) = false := no_lt (by omega)
  have a1 : decide (rs1 < 0) = false := no_lt (by omega)
  have b1 : decide (31 < rs1) = false := no_lt (by omega)
  have a2 : decide (rs2 < 0) = false := no_lt (by omega)
  have b2 : decide (31 < rs2) = false := no_lt (by omega)
  have a4 : decide (im < -131072) = false := no_lt (by omega)
  have b4 : decide (131072 ≤ im) = false := no_le (by omega)
  go_enter Try.func3, Try.ntmps3
  go_wp2_with fail
  refine (shown05_c _).mono ?_
  rintro e w1 ⟨rfl, hG1⟩
  go_wp2_with fail
  refine (HW.out _).mono ?_
  rintro e w2 ⟨rfl, hG2⟩
  go_wp2_with fail
  refine (rKind_c 41 (by omega) _).mono ?_
  rintro e w3 ⟨rfl, hG3⟩
  rw [HK.out]
  have hX := Lib.hid ((Row.fresh w2 25 [.int .i64 41, .int .i64 rd, .int .i64 rs1, .int .i64 rs2, .int .i64 im, .int .i64 2]).grown hG3 (by simp))
  have x0 := hX.out.cell 0; have x1 := hX.out.cell 1; have x2 := hX.out.cell 2; have x3 := hX.out.cell 3; have x4 := hX.out.cell 4
  simp only [List.getElem?_cons_zero, List.getElem?_cons_succ] at x0 x1 x2 x3 x4
  have HG := Lib.hid (gr_below (gr_trans (gr_alloc (gr_trans hG1 hG2) _) hG3))
  clear hG1 hG2 hG3
  go_wp2_with fail
  all_goals
    go_ret
    exact ⟨rfl, HG.out⟩
set_option maxRecDepth 100000 in
set_option maxHeartbeats 4000000 in
theorem way_6 (h : Nat) (hh : h < 65536) (hq : h % 4 ≠ 3) (o rd rs1 rs2 : Int) (ho : 31 ≤ o ∧ o ≤ 40) (h_rd : 0 ≤ rd ∧ rd ≤ 31) (h_rs1 : 0 ≤ rs1 ∧ rs1 ≤ 31) (h_rs2 : 0 ≤ rs2 ∧ rs2 ≤ 31) (hV : halfV h = (o, rd, rs1, rs2, 0)) (w : World) :
    Calls Try.prog 3 #[.int .u16 h] w fun e w' => e = .returned (.bool true) ∧ Below w.heap.size w w' := by
  have HW := Lib.hid (fun W => Half_at hh hV W)
  clear hV
  have HK := Lib.hid (show kindV o = 6 from kind_at o 6 (by decide) (show o ≤ 40 by omega) (Or.inr (show (30 : Int) < o by omega)))
  have q4 : ((h : Int) % 4 != 3) = true := by simp; omega
  have a0 : decide (rd < 0) = false := no_lt (by omega)
  have b0 : decide (31 < rd) = false := no_lt (by omega)
  have a1 : decide (rs1 < 0) = false := no_lt (by omega)
  have b1 : decide (31 < rs1) = false := no_lt (by omega)
  have a2 : decide (rs2 < 0) = false := no_lt (by omega)
  have b2 : decide (31 < rs2) = false := no_lt (by omega)
  go_enter Try.func3, Try.ntmps3
  go_wp2_with fail
  refine (shown05_c _).mono ?_
  rintro e w1 ⟨rfl, hG1⟩
  go_wp2_with fail
  refine (HW.out _).mono ?_
  rintro e w2 ⟨rfl, hG2⟩
  go_wp2_with fail
  refine (rKind_c o (by omega) _).mono ?_
  rintro e w3 ⟨rfl, hG3⟩
  rw [HK.out]
  have hX := Lib.hid ((Row.fresh w2 25 [.int .i64 o, .int .i64 rd, .int .i64 rs1, .int .i64 rs2, .int .i64 0, .int .i64 2]).grown hG3 (by simp))
  have x0 := hX.out.cell 0; have x1 := hX.out.cell 1; have x2 := hX.out.cell 2; have x3 := hX.out.cell 3; have x4 := hX.out.cell 4
  simp only [List.getElem?_cons_zero, List.getElem?_cons_succ] at x0 x1 x2 x3 x4
  have HG := Lib.hid (gr_below (gr_trans (gr_alloc (gr_trans hG1 hG2) _) hG3))
  clear hG1 hG2 hG3
  go_wp2_with fail
  all_goals
    go_ret
    exact ⟨rfl, HG.out⟩
set_option maxRecDepth 100000 in
set_option maxHeartbeats 4000000 in
theorem way_8 (h : Nat) (hh : h < 65536) (hq : h % 4 ≠ 3) (o rd rs1 rs2 : Int) (ho : 45 ≤ o ∧ o ≤ 46) (h_rd : 0 ≤ rd ∧ rd ≤ 31) (h_rs1 : 0 ≤ rs1 ∧ rs1 ≤ 31) (h_rs2 : 0 ≤ rs2 ∧ rs2 ≤ 31) (hV : halfV h = (o, rd, rs1, rs2, 0)) (w : World) :
    Calls Try.prog 3 #[.int .u16 h] w fun e w' => e = .returned (.bool true) ∧ Below w.heap.size w w' := by
  have HW := Lib.hid (fun W => Half_at hh hV W)
  clear hV
  have HK := Lib.hid (show kindV o = 8 from kind_at o 8 (by decide) (show o ≤ 49 by omega) (Or.inr (show (44 : Int) < o by omega)))
  have q4 : ((h : Int) % 4 != 3) = true := by simp; omega
  have a0 : decide (rd < 0) = false := no_lt (by omega)
  have b0 : decide (31 < rd) = false := no_lt (by omega)
  have a1 : decide (rs1 < 0) = false := no_lt (by omega)
  have b1 : decide (31 < rs1) = false := no_lt (by omega)
  have a2 : decide (rs2 < 0) = false := no_lt (by omega)
  have b2 : decide (31 < rs2) = false := no_lt (by omega)
  go_enter Try.func3, Try.ntmps3
  go_wp2_with fail
  refine (shown05_c _).mono ?_
  rintro e w1 ⟨rfl, hG1⟩
  go_wp2_with fail
  refine (HW.out _).mono ?_
  rintro e w2 ⟨rfl, hG2⟩
  go_wp2_with fail
  refine (rKind_c o (by omega) _).mono ?_
  rintro e w3 ⟨rfl, hG3⟩
  rw [HK.out]
  have hX := Lib.hid ((Row.fresh w2 25 [.int .i64 o, .int .i64 rd, .int .i64 rs1, .int .i64 rs2, .int .i64 0, .int .i64 2]).grown hG3 (by simp))
  have x0 := hX.out.cell 0; have x1 := hX.out.cell 1; have x2 := hX.out.cell 2; have x3 := hX.out.cell 3; have x4 := hX.out.cell 4
  simp only [List.getElem?_cons_zero, List.getElem?_cons_succ] at x0 x1 x2 x3 x4
  have HG := Lib.hid (gr_below (gr_trans (gr_alloc (gr_trans hG1 hG2) _) hG3))
  clear hG1 hG2 hG3
  go_wp2_with fail
  all_goals
    go_ret
    exact ⟨rfl, HG.out⟩
set_option maxRecDepth 100000 in
set_option maxHeartbeats 4000000 in
theorem way_11 (h : Nat) (hh : h < 65536) (hq : h % 4 ≠ 3) (rd rs1 rs2 im : Int) (h_rd : 0 ≤ rd ∧ rd ≤ 31) (h_rs1 : 0 ≤ rs1 ∧ rs1 ≤ 31) (h_rs2 : 0 ≤ rs2 ∧ rs2 ≤ 31) (h_im : -131072 ≤ im ∧ im < 131072) (hV : halfV h = (66, rd, rs1, rs2, im)) (w : World) :
    Calls Try.prog 3 #[.int .u16 h] w fun e w' => e = .returned (.bool true) ∧ Below w.heap.size w w' := by
  have HW := Lib.hid (fun W => Half_at hh hV W)
  clear hV
  have HK := Lib.hid (show kindV 66 = 11 from by decide)
  have q4 : ((h : Int) % 4 != 3) = true := by simp; omega
  have a0 : decide (rd < 0) = false := no_lt (by omega)
  have b0 : decide (31 < rd) = false := no_lt (by omega)
  have a1 : decide (rs1 < 0) = false := no_lt (by omega)
  have b1 : decide (31 < rs1) = false := no_lt (by omega)
  have a2 : decide (rs2 < 0) = false := no_lt (by omega)
  have b2 : decide (31 < rs2) = false := no_lt (by omega)
  have a4 : decide (im < -131072) = false := no_lt (by omega)
  have b4 : decide (131072 ≤ im) = false := no_le (by omega)
  go_enter Try.func3, Try.ntmps3
  go_wp2_with fail
  refine (shown05_c _).mono ?_
  rintro e w1 ⟨rfl, hG1⟩
  go_wp2_with fail
  refine (HW.out _).mono ?_
  rintro e w2 ⟨rfl, hG2⟩
  go_wp2_with fail
  refine (rKind_c 66 (by omega) _).mono ?_
  rintro e w3 ⟨rfl, hG3⟩
  rw [HK.out]
  have hX := Lib.hid ((Row.fresh w2 25 [.int .i64 66, .int .i64 rd, .int .i64 rs1, .int .i64 rs2, .int .i64 im, .int .i64 2]).grown hG3 (by simp))
  have x0 := hX.out.cell 0; have x1 := hX.out.cell 1; have x2 := hX.out.cell 2; have x3 := hX.out.cell 3; have x4 := hX.out.cell 4
  simp only [List.getElem?_cons_zero, List.getElem?_cons_succ] at x0 x1 x2 x3 x4
  have HG := Lib.hid (gr_below (gr_trans (gr_alloc (gr_trans hG1 hG2) _) hG3))
  clear hG1 hG2 hG3
  go_wp2_with fail
  all_goals
    go_ret
    exact ⟨rfl, HG.out⟩

theorem walk0 (h : Nat) (hh : h < 65536) (w : World) :
    Calls Try.prog 3 #[.int .u16 h] w fun e w' => e = .returned (.bool true) ∧ Below w.heap.size w w' := by
  rcases half_is h with hV | ⟨hq, o, rd, rs1, rs2, im, hV, h1, h2, h3, h4, hc, _⟩
  · exact way_none h hh hV w
  rcases hc with ⟨rfl, hm⟩ | ⟨rfl, hm⟩ | ⟨rfl, hm⟩ | ⟨ho, hm⟩ | ⟨rfl | rfl, hm, h5⟩ | ⟨rfl | rfl, hm, h5⟩ | ⟨ho, hm⟩ | ⟨rfl, hm⟩ | ⟨ho, rfl⟩ | ⟨ho, rfl⟩ | rfl
  · exact way_1 h hh hq 1 rd rs1 rs2 im (by omega) h1 h2 h3 h4 hm hV w
  · exact way_1 h hh hq 3 rd rs1 rs2 im (by omega) h1 h2 h3 h4 hm hV w
  · exact way_1 h hh hq 4 rd rs1 rs2 im (by omega) h1 h2 h3 h4 hm hV w
  · exact way_2 h hh hq o rd rs1 rs2 im (by omega) h1 h2 h3 h4 hm hV w
  · exact way_lw h hh hq rd rs1 rs2 im h1 h2 h3 h5 hm hV w
  · exact way_sw h hh hq rd rs1 rs2 im h1 h2 h3 h5 hm hV w
  · exact way_ld h hh hq rd rs1 rs2 im h1 h2 h3 h5 hm hV w
  · exact way_sd h hh hq rd rs1 rs2 im h1 h2 h3 h5 hm hV w
  · exact way_5 h hh hq o rd rs1 rs2 im ho h1 h2 h3 hm hV w
  · exact way_7 h hh hq rd rs1 rs2 im h1 h2 h3 hm hV w
  · exact way_6 h hh hq o rd rs1 rs2 ho h1 h2 h3 hV w
  · exact way_8 h hh hq o rd rs1 rs2 (by omega) h1 h2 h3 hV w
  · exact way_11 h hh hq rd rs1 rs2 im h1 h2 h3 h4 hV w
theorem walk (w : World) (a0 : Int) (w0 : (Lit.int .u16 a0).wf = true) :
    Calls Try.prog 3 #[.int .u16 a0] w fun e w' => e = .returned (.bool true) ∧ Below w.heap.size w w' := by
  have h0 := bounds_u16 w0
  obtain ⟨h, rfl⟩ : ∃ h : Nat, a0 = h := ⟨a0.toNat, by omega⟩
  exact walk0 h (by omega) w

theorem own : ownKnob Try.prog.godebug = none := by kernel_rfl
theorem laidOut : laidOutB Try.prog = true := by kernel_rfl

set_option maxRecDepth 100000 in
theorem lifted (os : Os) (started : os.Started) (H : Type) (enc : TypeId × Value → H) :
    ReturnsInHanded {} Try.checked os 3 .any (Rows.compFieldsSpec.pre6 enc Try.prog Try.f3 Rows.compFieldsRow.domain false) (Rows.compFieldsSpec.post enc Try.prog Try.f3 false true false false) := by
  refine returnsInHanded_of_change (C := Try.checked) own started (by kernel_rfl) Try.func3
    (ChangeSpec.witness6 (enc := enc) (C := Try.checked) false ⟨#[], #[.int .u16 0], []⟩ 8 (by kernel_rfl) (by kernel_rfl) (by kernel_rfl) (by kernel_rfl)) ?_
  intro W base args ds gs before hval0 hW hcnd _
  have hval : ∀ (j : Nat) t v, Try.f3.params[j]? = some t → args[j]? = some v → Value.okWide Try.prog W .any base t v := hval0
  have hW' := hW
  obtain ⟨p, q, hA0, hV, rfl, hfz, hnd⟩ := hW
  have hA : DataW.TrodAll enc Try.prog W 0 (fun _ => true) true Try.f3.params.toList args.toList ds p := hA0
  rw [Try.params3] at hA hval
  obtain ⟨v0, vs0, d0, ds0, p0, q0, hargs, rfl, rfl, h0, r0⟩ := trodAll_cons hA
  obtain ⟨rfl, rfl, rfl⟩ := trodAll_nil r0
  obtain rfl : args = #[v0] := by cases args; simp_all
  obtain ⟨rfl, rfl⟩ := trodVars_none hV
  clear hA0 hval0 hA
  have k0 := h0
  have lt0 : ∀ x ∈ p0, x.block < W.heap.size := by obtain ⟨m, hm⟩ := k0; exact DataW.trod_lt m _ _ _ hm
  obtain ⟨a0, rfl, rfl, rfl, w0⟩ := open_int Try.underlying22 (hval 0 22 v0 rfl rfl) h0
  refine (walk W a0 w0).mono fun e W' ⟨he, bel⟩ => ?_
  subst he
  exact ⟨_, rfl, _, _, _, [], _, [], hW', trodAll_mk1 (shut_bool Try.underlying4 _), (trodAll_cons_mk (Below.trod laidOut (by kernel_rfl) (of_decide_eq_true (by kernel_rfl)) k0 bel lt0) trodAll_mk0), rfl, bel.frame _, fun h => by cases h⟩

theorem over : Rows.compFieldsRow.holds Try.pinned (OpenSpec.ofChange Rows.compFieldsSpec) :=
  OpenClaim.holds_of_wide 3 Try.f3 rfl rfl rfl rfl rfl rfl rfl ⟨rfl, rfl, rfl, rfl, rfl⟩ rfl rfl rfl rfl rfl (by kernel_rfl) Try.func3 (by kernel_rfl)
    (of_decide_eq_true (by kernel_rfl)) (by unfold Func.isWrapper; first | (rw [if_pos (by decide +kernel)]; kernel_rfl) | (rw [if_neg (by decide +kernel)]; exact ⟨rfl, rfl⟩))
    (fun os started H enc _ => lifted os started H enc)

/-- The statement. -/
theorem proved : Rows.CompFieldsSaid := over
#print axioms proved

end Go.Proofs.Ythdjbmajdbfebaa.compFields
