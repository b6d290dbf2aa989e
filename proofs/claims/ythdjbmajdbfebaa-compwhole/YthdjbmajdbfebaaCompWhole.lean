/-
  Proved: for any half, the law CompWhole returns true: a half that is an instruction works on one register, or on the stack's, or on none, but for moves, loads and sums of two; one that is none is nothing else; and noughts are none.
  Conditions: none beyond the statement's own.
-/
import Derived.Test.YthdjbmajdbfebaaRows
import Derived.Test.YthdjbmajdbfebaaOpen
import Derived.Lib.Hide
import Derived.Test.YthdjbmajdbfebaaCompI
import Derived.Test.YthdjbmajdbfebaaDecR
namespace Go.Proofs.Ythdjbmajdbfebaa.compWhole
open Go Go.ChangeShapes Go.WideShapes Go.ChangeAt Go.RowKit F W M D
set_option linter.unusedVariables false

set_option maxRecDepth 100000 in
set_option maxHeartbeats 4000000 in
theorem way_none (h : Nat) (hh : h < 65536) (hV : halfV h = (0, 0, 0, 0, 0)) (w : World) :
    Calls Try.prog 5 #[.int .u16 h] w fun e w' => e = .returned (.bool true) ∧ Below w.heap.size w w' := by
  have HW := Lib.hid (fun W => Half_at hh hV W)
  clear hV
  go_enter Try.func5, Try.ntmps5
  go_wp2_with fail
  refine (shown05_c _).mono ?_
  rintro e w1 ⟨rfl, hG1⟩
  go_wp2_with fail
  refine (HW.out _).mono ?_
  rintro e w2 ⟨rfl, hG2⟩
  go_wp2_with fail
  go_ret
  exact ⟨rfl, gr_below (gr_alloc (gr_alloc (gr_trans hG1 hG2) _) _)⟩
set_option maxRecDepth 100000 in
set_option maxHeartbeats 4000000 in
theorem way_first (h : Nat) (hh : h < 65536) (o rd rs1 rs2 im k : Int) (ho : 1 ≤ o ∧ o ≤ 97) (hK : kindV o = k) (e0 : (o == 22) = true) (e1 : (rs1 == 0) = true) (hV : halfV h = (o, rd, rs1, rs2, im)) (w : World) :
    Calls Try.prog 5 #[.int .u16 h] w fun e w' => e = .returned (.bool true) ∧ Below w.heap.size w w' := by
  have HW := Lib.hid (fun W => Half_at hh hV W)
  have HK := Lib.hid hK
  clear hV hK
  have o0 : (o == 0) = false := by simp; omega
  go_enter Try.func5, Try.ntmps5
  go_wp2_with fail
  refine (shown05_c _).mono ?_
  rintro e w1 ⟨rfl, hG1⟩
  go_wp2_with fail
  refine (HW.out _).mono ?_
  rintro e w2 ⟨rfl, hG2⟩
  go_wp2_with fail
  refine (rKind_c o (by omega) _).mono ?_
  rintro e w3 ⟨rfl, hG3⟩
  rw [HK.out]
  have hX := Lib.hid ((Row.fresh w2 25 [.int .i64 o, .int .i64 rd, .int .i64 rs1, .int .i64 rs2, .int .i64 im, .int .i64 2]).grown hG3 (by simp))
  go_wp2_with fail
  refine (Half_at (h := 0) (by omega) half_zero _).mono ?_
  rintro e w4 ⟨rfl, hG4⟩
  have hY := Lib.hid (hX.out.grown hG4 (by simp))
  have x0 := hY.out.cell 0; have x1 := hY.out.cell 1; have x2 := hY.out.cell 2
  simp only [List.getElem?_cons_zero, List.getElem?_cons_succ] at x0 x1 x2
  have hlt := hY.out.lt
  have HG := Lib.hid (gr_below (gr_alloc (gr_trans (gr_trans (gr_alloc (gr_trans hG1 hG2) (.cells #[.int .i64 o, .int .i64 rd, .int .i64 rs1, .int .i64 rs2, .int .i64 im, .int .i64 2] 25)) hG3) hG4) (.cells #[.int .i64 0, .int .i64 0, .int .i64 0, .int .i64 0, .int .i64 0, .int .i64 2] 25)))
  clear hG1 hG2 hG3 hG4
  go_wp2_with fail
  go_ret
  exact ⟨rfl, HG.out⟩
set_option maxRecDepth 100000 in
set_option maxHeartbeats 4000000 in
theorem way_a0 (h : Nat) (hh : h < 65536) (o rd rs1 rs2 im k : Int) (ho : 1 ≤ o ∧ o ≤ 97) (hK : kindV o = k) (e0 : (o == 22) = true) (e1 : (rs1 == 0) = false) (e2 : (rd == rs1) = true) (hV : halfV h = (o, rd, rs1, rs2, im)) (w : World) :
    Calls Try.prog 5 #[.int .u16 h] w fun e w' => e = .returned (.bool true) ∧ Below w.heap.size w w' := by
  have HW := Lib.hid (fun W => Half_at hh hV W)
  have HK := Lib.hid hK
  clear hV hK
  have o0 : (o == 0) = false := by simp; omega
  go_enter Try.func5, Try.ntmps5
  go_wp2_with fail
  refine (shown05_c _).mono ?_
  rintro e w1 ⟨rfl, hG1⟩
  go_wp2_with fail
  refine (HW.out _).mono ?_
  rintro e w2 ⟨rfl, hG2⟩
  go_wp2_with fail
  refine (rKind_c o (by omega) _).mono ?_
  rintro e w3 ⟨rfl, hG3⟩
  rw [HK.out]
  have hX := Lib.hid ((Row.fresh w2 25 [.int .i64 o, .int .i64 rd, .int .i64 rs1, .int .i64 rs2, .int .i64 im, .int .i64 2]).grown hG3 (by simp))
  go_wp2_with fail
  refine (Half_at (h := 0) (by omega) half_zero _).mono ?_
  rintro e w4 ⟨rfl, hG4⟩
  have hY := Lib.hid (hX.out.grown hG4 (by simp))
  have x0 := hY.out.cell 0; have x1 := hY.out.cell 1; have x2 := hY.out.cell 2
  simp only [List.getElem?_cons_zero, List.getElem?_cons_succ] at x0 x1 x2
  have hlt := hY.out.lt
  have HG := Lib.hid (gr_below (gr_alloc (gr_trans (gr_trans (gr_alloc (gr_trans hG1 hG2) (.cells #[.int .i64 o, .int .i64 rd, .int .i64 rs1, .int .i64 rs2, .int .i64 im, .int .i64 2] 25)) hG3) hG4) (.cells #[.int .i64 0, .int .i64 0, .int .i64 0, .int .i64 0, .int .i64 0, .int .i64 2] 25)))
  clear hG1 hG2 hG3 hG4
  go_wp2_with fail
  go_ret
  exact ⟨rfl, HG.out⟩
set_option maxRecDepth 100000 in
set_option maxHeartbeats 4000000 in
theorem way_a1 (h : Nat) (hh : h < 65536) (o rd rs1 rs2 im k : Int) (ho : 1 ≤ o ∧ o ≤ 97) (hK : kindV o = k) (e0 : (o == 22) = true) (e1 : (rs1 == 0) = false) (e2 : (rd == rs1) = false) (e3 : (rs1 == 2) = true) (hV : halfV h = (o, rd, rs1, rs2, im)) (w : World) :
    Calls Try.prog 5 #[.int .u16 h] w fun e w' => e = .returned (.bool true) ∧ Below w.heap.size w w' := by
  have HW := Lib.hid (fun W => Half_at hh hV W)
  have HK := Lib.hid hK
  clear hV hK
  have o0 : (o == 0) = false := by simp; omega
  go_enter Try.func5, Try.ntmps5
  go_wp2_with fail
  refine (shown05_c _).mono ?_
  rintro e w1 ⟨rfl, hG1⟩
  go_wp2_with fail
  refine (HW.out _).mono ?_
  rintro e w2 ⟨rfl, hG2⟩
  go_wp2_with fail
  refine (rKind_c o (by omega) _).mono ?_
  rintro e w3 ⟨rfl, hG3⟩
  rw [HK.out]
  have hX := Lib.hid ((Row.fresh w2 25 [.int .i64 o, .int .i64 rd, .int .i64 rs1, .int .i64 rs2, .int .i64 im, .int .i64 2]).grown hG3 (by simp))
  go_wp2_with fail
  refine (Half_at (h := 0) (by omega) half_zero _).mono ?_
  rintro e w4 ⟨rfl, hG4⟩
  have hY := Lib.hid (hX.out.grown hG4 (by simp))
  have x0 := hY.out.cell 0; have x1 := hY.out.cell 1; have x2 := hY.out.cell 2
  simp only [List.getElem?_cons_zero, List.getElem?_cons_succ] at x0 x1 x2
  have hlt := hY.out.lt
  have HG := Lib.hid (gr_below (gr_alloc (gr_trans (gr_trans (gr_alloc (gr_trans hG1 hG2) (.cells #[.int .i64 o, .int .i64 rd, .int .i64 rs1, .int .i64 rs2, .int .i64 im, .int .i64 2] 25)) hG3) hG4) (.cells #[.int .i64 0, .int .i64 0, .int .i64 0, .int .i64 0, .int .i64 0, .int .i64 2] 25)))
  clear hG1 hG2 hG3 hG4
  go_wp2_with fail
  go_ret
  exact ⟨rfl, HG.out⟩
set_option maxRecDepth 100000 in
set_option maxHeartbeats 4000000 in
theorem way_a2 (h : Nat) (hh : h < 65536) (o rd rs1 rs2 im k : Int) (ho : 1 ≤ o ∧ o ≤ 97) (hK : kindV o = k) (e0 : (o == 22) = true) (e1 : (rs1 == 0) = false) (e2 : (rd == rs1) = false) (e3 : (rs1 == 2) = false) (e4 : (rd == 0) = true) (hV : halfV h = (o, rd, rs1, rs2, im)) (w : World) :
    Calls Try.prog 5 #[.int .u16 h] w fun e w' => e = .returned (.bool true) ∧ Below w.heap.size w w' := by
  have HW := Lib.hid (fun W => Half_at hh hV W)
  have HK := Lib.hid hK
  clear hV hK
  have o0 : (o == 0) = false := by simp; omega
  go_enter Try.func5, Try.ntmps5
  go_wp2_with fail
  refine (shown05_c _).mono ?_
  rintro e w1 ⟨rfl, hG1⟩
  go_wp2_with fail
  refine (HW.out _).mono ?_
  rintro e w2 ⟨rfl, hG2⟩
  go_wp2_with fail
  refine (rKind_c o (by omega) _).mono ?_
  rintro e w3 ⟨rfl, hG3⟩
  rw [HK.out]
  have hX := Lib.hid ((Row.fresh w2 25 [.int .i64 o, .int .i64 rd, .int .i64 rs1, .int .i64 rs2, .int .i64 im, .int .i64 2]).grown hG3 (by simp))
  go_wp2_with fail
  refine (Half_at (h := 0) (by omega) half_zero _).mono ?_
  rintro e w4 ⟨rfl, hG4⟩
  have hY := Lib.hid (hX.out.grown hG4 (by simp))
  have x0 := hY.out.cell 0; have x1 := hY.out.cell 1; have x2 := hY.out.cell 2
  simp only [List.getElem?_cons_zero, List.getElem?_cons_succ] at x0 x1 x2
  have hlt := hY.out.lt
  have HG := Lib.hid (gr_below (gr_alloc (gr_trans (gr_trans (gr_alloc (gr_trans hG1 hG2) (.cells #[.int .i64 o, .int .i64 rd, .int .i64 rs1, .int .i64 rs2, .int .i64 im, .int .i64 2] 25)) hG3) hG4) (.cells #[.int .i64 0, .int .i64 0, .int .i64 0, .int .i64 0, .int .i64 0, .int .i64 2] 25)))
  clear hG1 hG2 hG3 hG4
  go_wp2_with fail
  go_ret
  exact ⟨rfl, HG.out⟩
set_option maxRecDepth 100000 in
set_option maxHeartbeats 4000000 in
theorem way_b0 (h : Nat) (hh : h < 65536) (o rd rs1 rs2 im k : Int) (ho : 1 ≤ o ∧ o ≤ 97) (hK : kindV o = k) (e0 : (o == 22) = false) (e1 : (rd == rs1) = true) (hV : halfV h = (o, rd, rs1, rs2, im)) (w : World) :
    Calls Try.prog 5 #[.int .u16 h] w fun e w' => e = .returned (.bool true) ∧ Below w.heap.size w w' := by
  have HW := Lib.hid (fun W => Half_at hh hV W)
  have HK := Lib.hid hK
  clear hV hK
  have o0 : (o == 0) = false := by simp; omega
  go_enter Try.func5, Try.ntmps5
  go_wp2_with fail
  refine (shown05_c _).mono ?_
  rintro e w1 ⟨rfl, hG1⟩
  go_wp2_with fail
  refine (HW.out _).mono ?_
  rintro e w2 ⟨rfl, hG2⟩
  go_wp2_with fail
  refine (rKind_c o (by omega) _).mono ?_
  rintro e w3 ⟨rfl, hG3⟩
  rw [HK.out]
  have hX := Lib.hid ((Row.fresh w2 25 [.int .i64 o, .int .i64 rd, .int .i64 rs1, .int .i64 rs2, .int .i64 im, .int .i64 2]).grown hG3 (by simp))
  go_wp2_with fail
  refine (Half_at (h := 0) (by omega) half_zero _).mono ?_
  rintro e w4 ⟨rfl, hG4⟩
  have hY := Lib.hid (hX.out.grown hG4 (by simp))
  have x0 := hY.out.cell 0; have x1 := hY.out.cell 1; have x2 := hY.out.cell 2
  simp only [List.getElem?_cons_zero, List.getElem?_cons_succ] at x0 x1 x2
  have hlt := hY.out.lt
  have HG := Lib.hid (gr_below (gr_alloc (gr_trans (gr_trans (gr_alloc (gr_trans hG1 hG2) (.cells #[.int .i64 o, .int .i64 rd, .int .i64 rs1, .int .i64 rs2, .int .i64 im, .int .i64 2] 25)) hG3) hG4) (.cells #[.int .i64 0, .int .i64 0, .int .i64 0, .int .i64 0, .int .i64 0, .int .i64 2] 25)))
  clear hG1 hG2 hG3 hG4
  go_wp2_with fail
  go_ret
  exact ⟨rfl, HG.out⟩
set_option maxRecDepth 100000 in
set_option maxHeartbeats 4000000 in
theorem way_b1 (h : Nat) (hh : h < 65536) (o rd rs1 rs2 im k : Int) (ho : 1 ≤ o ∧ o ≤ 97) (hK : kindV o = k) (e0 : (o == 22) = false) (e1 : (rd == rs1) = false) (e2 : (rs1 == 2) = true) (hV : halfV h = (o, rd, rs1, rs2, im)) (w : World) :
    Calls Try.prog 5 #[.int .u16 h] w fun e w' => e = .returned (.bool true) ∧ Below w.heap.size w w' := by
  have HW := Lib.hid (fun W => Half_at hh hV W)
  have HK := Lib.hid hK
  clear hV hK
  have o0 : (o == 0) = false := by simp; omega
  go_enter Try.func5, Try.ntmps5
  go_wp2_with fail
  refine (shown05_c _).mono ?_
  rintro e w1 ⟨rfl, hG1⟩
  go_wp2_with fail
  refine (HW.out _).mono ?_
  rintro e w2 ⟨rfl, hG2⟩
  go_wp2_with fail
  refine (rKind_c o (by omega) _).mono ?_
  rintro e w3 ⟨rfl, hG3⟩
  rw [HK.out]
  have hX := Lib.hid ((Row.fresh w2 25 [.int .i64 o, .int .i64 rd, .int .i64 rs1, .int .i64 rs2, .int .i64 im, .int .i64 2]).grown hG3 (by simp))
  go_wp2_with fail
  refine (Half_at (h := 0) (by omega) half_zero _).mono ?_
  rintro e w4 ⟨rfl, hG4⟩
  have hY := Lib.hid (hX.out.grown hG4 (by simp))
  have x0 := hY.out.cell 0; have x1 := hY.out.cell 1; have x2 := hY.out.cell 2
  simp only [List.getElem?_cons_zero, List.getElem?_cons_succ] at x0 x1 x2
  have hlt := hY.out.lt
  have HG := Lib.hid (gr_below (gr_alloc (gr_trans (gr_trans (gr_alloc (gr_trans hG1 hG2) (.cells #[.int .i64 o, .int .i64 rd, .int .i64 rs1, .int .i64 rs2, .int .i64 im, .int .i64 2] 25)) hG3) hG4) (.cells #[.int .i64 0, .int .i64 0, .int .i64 0, .int .i64 0, .int .i64 0, .int .i64 2] 25)))
  clear hG1 hG2 hG3 hG4
  go_wp2_with fail
  go_ret
  exact ⟨rfl, HG.out⟩
set_option maxRecDepth 100000 in
set_option maxHeartbeats 4000000 in
theorem way_b2 (h : Nat) (hh : h < 65536) (o rd rs1 rs2 im k : Int) (ho : 1 ≤ o ∧ o ≤ 97) (hK : kindV o = k) (e0 : (o == 22) = false) (e1 : (rd == rs1) = false) (e2 : (rs1 == 2) = false) (e3 : (rd == 0) = true) (hV : halfV h = (o, rd, rs1, rs2, im)) (w : World) :
    Calls Try.prog 5 #[.int .u16 h] w fun e w' => e = .returned (.bool true) ∧ Below w.heap.size w w' := by
  have HW := Lib.hid (fun W => Half_at hh hV W)
  have HK := Lib.hid hK
  clear hV hK
  have o0 : (o == 0) = false := by simp; omega
  go_enter Try.func5, Try.ntmps5
  go_wp2_with fail
  refine (shown05_c _).mono ?_
  rintro e w1 ⟨rfl, hG1⟩
  go_wp2_with fail
  refine (HW.out _).mono ?_
  rintro e w2 ⟨rfl, hG2⟩
  go_wp2_with fail
  refine (rKind_c o (by omega) _).mono ?_
  rintro e w3 ⟨rfl, hG3⟩
  rw [HK.out]
  have hX := Lib.hid ((Row.fresh w2 25 [.int .i64 o, .int .i64 rd, .int .i64 rs1, .int .i64 rs2, .int .i64 im, .int .i64 2]).grown hG3 (by simp))
  go_wp2_with fail
  refine (Half_at (h := 0) (by omega) half_zero _).mono ?_
  rintro e w4 ⟨rfl, hG4⟩
  have hY := Lib.hid (hX.out.grown hG4 (by simp))
  have x0 := hY.out.cell 0; have x1 := hY.out.cell 1; have x2 := hY.out.cell 2
  simp only [List.getElem?_cons_zero, List.getElem?_cons_succ] at x0 x1 x2
  have hlt := hY.out.lt
  have HG := Lib.hid (gr_below (gr_alloc (gr_trans (gr_trans (gr_alloc (gr_trans hG1 hG2) (.cells #[.int .i64 o, .int .i64 rd, .int .i64 rs1, .int .i64 rs2, .int .i64 im, .int .i64 2] 25)) hG3) hG4) (.cells #[.int .i64 0, .int .i64 0, .int .i64 0, .int .i64 0, .int .i64 0, .int .i64 2] 25)))
  clear hG1 hG2 hG3 hG4
  go_wp2_with fail
  go_ret
  exact ⟨rfl, HG.out⟩
set_option maxRecDepth 100000 in
set_option maxHeartbeats 4000000 in
theorem way_b3 (h : Nat) (hh : h < 65536) (o rd rs1 rs2 im k : Int) (ho : 1 ≤ o ∧ o ≤ 97) (hK : kindV o = k) (e0 : (o == 22) = false) (e1 : (rd == rs1) = false) (e2 : (rs1 == 2) = false) (e3 : (rd == 0) = false) (e4 : (k == 3) = true) (hV : halfV h = (o, rd, rs1, rs2, im)) (w : World) :
    Calls Try.prog 5 #[.int .u16 h] w fun e w' => e = .returned (.bool true) ∧ Below w.heap.size w w' := by
  have HW := Lib.hid (fun W => Half_at hh hV W)
  have HK := Lib.hid hK
  clear hV hK
  have o0 : (o == 0) = false := by simp; omega
  go_enter Try.func5, Try.ntmps5
  go_wp2_with fail
  refine (shown05_c _).mono ?_
  rintro e w1 ⟨rfl, hG1⟩
  go_wp2_with fail
  refine (HW.out _).mono ?_
  rintro e w2 ⟨rfl, hG2⟩
  go_wp2_with fail
  refine (rKind_c o (by omega) _).mono ?_
  rintro e w3 ⟨rfl, hG3⟩
  rw [HK.out]
  have hX := Lib.hid ((Row.fresh w2 25 [.int .i64 o, .int .i64 rd, .int .i64 rs1, .int .i64 rs2, .int .i64 im, .int .i64 2]).grown hG3 (by simp))
  go_wp2_with fail
  refine (Half_at (h := 0) (by omega) half_zero _).mono ?_
  rintro e w4 ⟨rfl, hG4⟩
  have hY := Lib.hid (hX.out.grown hG4 (by simp))
  have x0 := hY.out.cell 0; have x1 := hY.out.cell 1; have x2 := hY.out.cell 2
  simp only [List.getElem?_cons_zero, List.getElem?_cons_succ] at x0 x1 x2
  have hlt := hY.out.lt
  have HG := Lib.hid (gr_below (gr_alloc (gr_trans (gr_trans (gr_alloc (gr_trans hG1 hG2) (.cells #[.int .i64 o, .int .i64 rd, .int .i64 rs1, .int .i64 rs2, .int .i64 im, .int .i64 2] 25)) hG3) hG4) (.cells #[.int .i64 0, .int .i64 0, .int .i64 0, .int .i64 0, .int .i64 0, .int .i64 2] 25)))
  clear hG1 hG2 hG3 hG4
  go_wp2_with fail
  go_ret
  exact ⟨rfl, HG.out⟩
set_option maxRecDepth 100000 in
set_option maxHeartbeats 4000000 in
theorem way_b4 (h : Nat) (hh : h < 65536) (o rd rs1 rs2 im k : Int) (ho : 1 ≤ o ∧ o ≤ 97) (hK : kindV o = k) (e0 : (o == 22) = false) (e1 : (rd == rs1) = false) (e2 : (rs1 == 2) = false) (e3 : (rd == 0) = false) (e4 : (k == 3) = false) (e5 : (o == 1) = true) (hV : halfV h = (o, rd, rs1, rs2, im)) (w : World) :
    Calls Try.prog 5 #[.int .u16 h] w fun e w' => e = .returned (.bool true) ∧ Below w.heap.size w w' := by
  have HW := Lib.hid (fun W => Half_at hh hV W)
  have HK := Lib.hid hK
  clear hV hK
  have o0 : (o == 0) = false := by simp; omega
  go_enter Try.func5, Try.ntmps5
  go_wp2_with fail
  refine (shown05_c _).mono ?_
  rintro e w1 ⟨rfl, hG1⟩
  go_wp2_with fail
  refine (HW.out _).mono ?_
  rintro e w2 ⟨rfl, hG2⟩
  go_wp2_with fail
  refine (rKind_c o (by omega) _).mono ?_
  rintro e w3 ⟨rfl, hG3⟩
  rw [HK.out]
  have hX := Lib.hid ((Row.fresh w2 25 [.int .i64 o, .int .i64 rd, .int .i64 rs1, .int .i64 rs2, .int .i64 im, .int .i64 2]).grown hG3 (by simp))
  go_wp2_with fail
  refine (Half_at (h := 0) (by omega) half_zero _).mono ?_
  rintro e w4 ⟨rfl, hG4⟩
  have hY := Lib.hid (hX.out.grown hG4 (by simp))
  have x0 := hY.out.cell 0; have x1 := hY.out.cell 1; have x2 := hY.out.cell 2
  simp only [List.getElem?_cons_zero, List.getElem?_cons_succ] at x0 x1 x2
  have hlt := hY.out.lt
  have HG := Lib.hid (gr_below (gr_alloc (gr_trans (gr_trans (gr_alloc (gr_trans hG1 hG2) (.cells #[.int .i64 o, .int .i64 rd, .int .i64 rs1, .int .i64 rs2, .int .i64 im, .int .i64 2] 25)) hG3) hG4) (.cells #[.int .i64 0, .int .i64 0, .int .i64 0, .int .i64 0, .int .i64 0, .int .i64 2] 25)))
  clear hG1 hG2 hG3 hG4
  go_wp2_with fail
  go_ret
  exact ⟨rfl, HG.out⟩
set_option maxRecDepth 100000 in
set_option maxHeartbeats 4000000 in
theorem way_b5 (h : Nat) (hh : h < 65536) (o rd rs1 rs2 im k : Int) (ho : 1 ≤ o ∧ o ≤ 97) (hK : kindV o = k) (e0 : (o == 22) = false) (e1 : (rd == rs1) = false) (e2 : (rs1 == 2) = false) (e3 : (rd == 0) = false) (e4 : (k == 3) = false) (e5 : (o == 1) = false) (e6 : (o == 31) = true) (hV : halfV h = (o, rd, rs1, rs2, im)) (w : World) :
    Calls Try.prog 5 #[.int .u16 h] w fun e w' => e = .returned (.bool true) ∧ Below w.heap.size w w' := by
  have HW := Lib.hid (fun W => Half_at hh hV W)
  have HK := Lib.hid hK
  clear hV hK
  have o0 : (o == 0) = false := by simp; omega
  go_enter Try.func5, Try.ntmps5
  go_wp2_with fail
  refine (shown05_c _).mono ?_
  rintro e w1 ⟨rfl, hG1⟩
  go_wp2_with fail
  refine (HW.out _).mono ?_
  rintro e w2 ⟨rfl, hG2⟩
  go_wp2_with fail
  refine (rKind_c o (by omega) _).mono ?_
  rintro e w3 ⟨rfl, hG3⟩
  rw [HK.out]
  have hX := Lib.hid ((Row.fresh w2 25 [.int .i64 o, .int .i64 rd, .int .i64 rs1, .int .i64 rs2, .int .i64 im, .int .i64 2]).grown hG3 (by simp))
  go_wp2_with fail
  refine (Half_at (h := 0) (by omega) half_zero _).mono ?_
  rintro e w4 ⟨rfl, hG4⟩
  have hY := Lib.hid (hX.out.grown hG4 (by simp))
  have x0 := hY.out.cell 0; have x1 := hY.out.cell 1; have x2 := hY.out.cell 2
  simp only [List.getElem?_cons_zero, List.getElem?_cons_succ] at x0 x1 x2
  have hlt := hY.out.lt
  have HG := Lib.hid (gr_below (gr_alloc (gr_trans (gr_trans (gr_alloc (gr_trans hG1 hG2) (.cells #[.int .i64 o, .int .i64 rd, .int .i64 rs1, .int .i64 rs2, .int .i64 im, .int .i64 2] 25)) hG3) hG4) (.cells #[.int .i64 0, .int .i64 0, .int .i64 0, .int .i64 0, .int .i64 0, .int .i64 2] 25)))
  clear hG1 hG2 hG3 hG4
  go_wp2_with fail
  go_ret
  exact ⟨rfl, HG.out⟩
set_option maxRecDepth 100000 in
set_option maxHeartbeats 4000000 in
theorem way_b6 (h : Nat) (hh : h < 65536) (o rd rs1 rs2 im k : Int) (ho : 1 ≤ o ∧ o ≤ 97) (hK : kindV o = k) (e0 : (o == 22) = false) (e1 : (rd == rs1) = false) (e2 : (rs1 == 2) = false) (e3 : (rd == 0) = false) (e4 : (k == 3) = false) (e5 : (o == 1) = false) (e6 : (o == 31) = false) (e7 : (o == 4) = true) (e8 : (rd == 1) = true) (hV : halfV h = (o, rd, rs1, rs2, im)) (w : World) :
    Calls Try.prog 5 #[.int .u16 h] w fun e w' => e = .returned (.bool true) ∧ Below w.heap.size w w' := by
  have HW := Lib.hid (fun W => Half_at hh hV W)
  have HK := Lib.hid hK
  clear hV hK
  have o0 : (o == 0) = false := by simp; omega
  go_enter Try.func5, Try.ntmps5
  go_wp2_with fail
  refine (shown05_c _).mono ?_
  rintro e w1 ⟨rfl, hG1⟩
  go_wp2_with fail
  refine (HW.out _).mono ?_
  rintro e w2 ⟨rfl, hG2⟩
  go_wp2_with fail
  refine (rKind_c o (by omega) _).mono ?_
  rintro e w3 ⟨rfl, hG3⟩
  rw [HK.out]
  have hX := Lib.hid ((Row.fresh w2 25 [.int .i64 o, .int .i64 rd, .int .i64 rs1, .int .i64 rs2, .int .i64 im, .int .i64 2]).grown hG3 (by simp))
  go_wp2_with fail
  refine (Half_at (h := 0) (by omega) half_zero _).mono ?_
  rintro e w4 ⟨rfl, hG4⟩
  have hY := Lib.hid (hX.out.grown hG4 (by simp))
  have x0 := hY.out.cell 0; have x1 := hY.out.cell 1; have x2 := hY.out.cell 2
  simp only [List.getElem?_cons_zero, List.getElem?_cons_succ] at x0 x1 x2
  have hlt := hY.out.lt
  have HG := Lib.hid (gr_below (gr_alloc (gr_trans (gr_trans (gr_alloc (gr_trans hG1 hG2) (.cells #[.int .i64 o, .int .i64 rd, .int .i64 rs1, .int .i64 rs2, .int .i64 im, .int .i64 2] 25)) hG3) hG4) (.cells #[.int .i64 0, .int .i64 0, .int .i64 0, .int .i64 0, .int .i64 0, .int .i64 2] 25)))
  clear hG1 hG2 hG3 hG4
  go_wp2_with fail
  go_ret
  exact ⟨rfl, HG.out⟩

theorem yes {a b : Int} (h : a = b) : (a == b) = true := by simpa using h
theorem no {a b : Int} (h : a ≠ b) : (a == b) = false := by simpa using h
theorem walk0 (h : Nat) (hh : h < 65536) (w : World) :
    Calls Try.prog 5 #[.int .u16 h] w fun e w' => e = .returned (.bool true) ∧ Below w.heap.size w w' := by
  rcases half_is h with hV | ⟨hq, o, rd, rs1, rs2, im, hV, h1, h2, h3, h4, hc, hs⟩
  · exact way_none h hh hV w
  have ho : 1 ≤ o ∧ o ≤ 97 := by omega
  by_cases c22 : o = 22
  · by_cases cz : rs1 = 0
    · exact way_first h hh o rd rs1 rs2 im _ ho rfl (yes c22) (yes cz) hV w
    by_cases c0 : rd = rs1
    · exact way_a0 h hh o rd rs1 rs2 im _ ho rfl (yes c22) (no cz) (yes c0) hV w
    by_cases c1 : rs1 = 2
    · exact way_a1 h hh o rd rs1 rs2 im _ ho rfl (yes c22) (no cz) (no c0) (yes c1) hV w
    exact way_a2 h hh o rd rs1 rs2 im _ ho rfl (yes c22) (no cz) (no c0) (no c1) (yes (by omega)) hV w
  by_cases c0 : rd = rs1
  · exact way_b0 h hh o rd rs1 rs2 im _ ho rfl (no c22) (yes c0) hV w
  by_cases c1 : rs1 = 2
  · exact way_b1 h hh o rd rs1 rs2 im _ ho rfl (no c22) (no c0) (yes c1) hV w
  by_cases c2 : rd = 0
  · exact way_b2 h hh o rd rs1 rs2 im _ ho rfl (no c22) (no c0) (no c1) (yes c2) hV w
  by_cases c3 : kindV o = 3
  · exact way_b3 h hh o rd rs1 rs2 im _ ho rfl (no c22) (no c0) (no c1) (no c2) (yes c3) hV w
  by_cases c4 : o = 1
  · exact way_b4 h hh o rd rs1 rs2 im _ ho rfl (no c22) (no c0) (no c1) (no c2) (no c3) (yes c4) hV w
  by_cases c5 : o = 31
  · exact way_b5 h hh o rd rs1 rs2 im _ ho rfl (no c22) (no c0) (no c1) (no c2) (no c3) (no c4) (yes c5) hV w
  have hk : ¬ (11 ≤ o ∧ o ≤ 17) := fun h => c3 (kind_at o 3 (by decide) (show o ≤ 17 by omega) (Or.inr (show (10 : Int) < o by omega)))
  exact way_b6 h hh o rd rs1 rs2 im _ ho rfl (no c22) (no c0) (no c1) (no c2) (no c3) (no c4) (no c5) (yes (by omega)) (yes (by omega)) hV w
theorem walk (w : World) (a0 : Int) (w0 : (Lit.int .u16 a0).wf = true) :
    Calls Try.prog 5 #[.int .u16 a0] w fun e w' => e = .returned (.bool true) ∧ Below w.heap.size w w' := by
  have h0 := bounds_u16 w0
  obtain ⟨h, rfl⟩ : ∃ h : Nat, a0 = h := ⟨a0.toNat, by omega⟩
  exact walk0 h (by omega) w

theorem own : ownKnob Try.prog.godebug = none := by kernel_rfl
theorem laidOut : laidOutB Try.prog = true := by kernel_rfl

set_option maxRecDepth 100000 in
theorem lifted (os : Os) (started : os.Started) (H : Type) (enc : TypeId × Value → H) :
    ReturnsInHanded {} Try.checked os 5 .any (Rows.compWholeSpec.pre6 enc Try.prog Try.f5 Rows.compWholeRow.domain false) (Rows.compWholeSpec.post enc Try.prog Try.f5 false true false false) := by
  refine returnsInHanded_of_change (C := Try.checked) own started (by kernel_rfl) Try.func5
    (ChangeSpec.witness6 (enc := enc) (C := Try.checked) false ⟨#[], #[.int .u16 0], []⟩ 8 (by kernel_rfl) (by kernel_rfl) (by kernel_rfl) (by kernel_rfl)) ?_
  intro W base args ds gs before hval0 hW hcnd _
  have hval : ∀ (j : Nat) t v, Try.f5.params[j]? = some t → args[j]? = some v → Value.okWide Try.prog W .any base t v := hval0
  have hW' := hW
  obtain ⟨p, q, hA0, hV, rfl, hfz, hnd⟩ := hW
  have hA : DataW.TrodAll enc Try.prog W 0 (fun _ => true) true Try.f5.params.toList args.toList ds p := hA0
  rw [Try.params5] at hA hval
  obtain ⟨v0, vs0, d0, ds0, p0, q0, hargs, rfl, rfl, h0, r0⟩ := trodAll_cons hA
  obtain ⟨rfl, rfl, rfl⟩ := trodAll_nil r0
  obtain rfl : args = #[v0] := by cases args; simp_all
  obtain ⟨rfl, rfl⟩ := trodVars_none hV
  clear hA0 hval0 hA
  have k0 := h0
  have lt0 : ∀ x ∈ p0, x.block < W.heap.size := by obtain ⟨m, hm⟩ := k0; exact DataW.trod_lt m _ _ _ hm
  obtain ⟨a0, rfl, rfl, rfl, w0⟩ := open_int Try.underlying22 (hval 0 22 v0 rfl rfl) h0
  refine (walk W a0 w0).mono fun e W' ⟨he, bel⟩ => ?_
  subst he
  exact ⟨_, rfl, _, _, _, [], _, [], hW', trodAll_mk1 (shut_bool Try.underlying4 _), (trodAll_cons_mk (Below.trod laidOut (by kernel_rfl) (of_decide_eq_true (by kernel_rfl)) k0 bel lt0) trodAll_mk0), rfl, bel.frame _, fun h => by cases h⟩

theorem over : Rows.compWholeRow.holds Try.pinned (OpenSpec.ofChange Rows.compWholeSpec) :=
  OpenClaim.holds_of_wide 5 Try.f5 rfl rfl rfl rfl rfl rfl rfl ⟨rfl, rfl, rfl, rfl, rfl⟩ rfl rfl rfl rfl rfl (by kernel_rfl) Try.func5 (by kernel_rfl)
    (of_decide_eq_true (by kernel_rfl)) (by unfold Func.isWrapper; first | (rw [if_pos (by decide +kernel)]; kernel_rfl) | (rw [if_neg (by decide +kernel)]; exact ⟨rfl, rfl⟩))
    (fun os started H enc _ => lifted os started H enc)

/-- The statement. -/
theorem proved : Rows.CompWholeSaid := over
#print axioms proved

end Go.Proofs.Ythdjbmajdbfebaa.compWhole
