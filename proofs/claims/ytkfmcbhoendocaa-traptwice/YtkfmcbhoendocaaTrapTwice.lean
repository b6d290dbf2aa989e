/-
  Proved: for any registers, any trap and any other pc, the law TrapTwice returns true: to come back two times is to be a user that lets interrupts; two traps, one within the other, lose the first pc.
  Conditions: none beyond the statement's own.
-/
import Derived.Test.YtkfmcbhoendocaaRows
import Derived.Test.YtkfmcbhoendocaaLayO
import Derived.Lib.Hide
import Derived.Deep.RegionHeld3
import Derived.Test.YtkfmcbhoendocaaTrLw
import Derived.Test.YtkfmcbhoendocaaTrW
import Derived.Test.YtkfmcbhoendocaaTrL2
namespace Go.Proofs.Ytkfmcbhoendocaa.trapTwice
open Go Go.ChangeShapes Go.WideShapes Go.ChangeAt Go.RowKit W M D A C J
set_option linter.unusedVariables false

set_option maxRecDepth 100000 in
set_option maxHeartbeats 40000000 in
theorem walk (w : World) (a0_0 : Int) (w0_0 : (Lit.int .u64 a0_0).wf = true) (a0_1 : Int) (w0_1 : (Lit.int .u64 a0_1).wf = true) (a0_2 : Int) (w0_2 : (Lit.int .u64 a0_2).wf = true) (a0_3 : Int) (w0_3 : (Lit.int .u64 a0_3).wf = true) (a0_4 : Int) (w0_4 : (Lit.int .u64 a0_4).wf = true) (a0_5 : Int) (w0_5 : (Lit.int .u64 a0_5).wf = true) (a0_6 : Int) (w0_6 : (Lit.int .u64 a0_6).wf = true) (a0_7 : Int) (w0_7 : (Lit.int .u64 a0_7).wf = true) (a0_8 : Int) (w0_8 : (Lit.int .u64 a0_8).wf = true) (a0_9 : Int) (w0_9 : (Lit.int .u64 a0_9).wf = true) (a0_10 : Int) (w0_10 : (Lit.int .u64 a0_10).wf = true) (a0_11 : Int) (w0_11 : (Lit.int .u64 a0_11).wf = true) (a1_0 : Int) (w1_0 : (Lit.int .i64 a1_0).wf = true) (a1_1 : Int) (w1_1 : (Lit.int .i64 a1_1).wf = true) (a1_2 : Int) (w1_2 : (Lit.int .u64 a1_2).wf = true) (a1_3 : Int) (w1_3 : (Lit.int .u64 a1_3).wf = true) (a1_4 : Bool) (a2 : Int) (w2 : (Lit.int .u64 a2).wf = true) :
    Calls Try.prog 4 #[.agg #[.int .u64 a0_0, .int .u64 a0_1, .int .u64 a0_2, .int .u64 a0_3, .int .u64 a0_4, .int .u64 a0_5, .int .u64 a0_6, .int .u64 a0_7, .int .u64 a0_8, .int .u64 a0_9, .int .u64 a0_10, .int .u64 a0_11], .agg #[.int .i64 a1_0, .int .i64 a1_1, .int .u64 a1_2, .int .u64 a1_3, .bool a1_4], .int .u64 a2] w fun e w' => e = .returned (.bool true) ∧ Below w.heap.size w w' := by
  have hc : C.Good [a0_0, a0_1, a0_2, a0_3, a0_4, a0_5, a0_6, a0_7, a0_8, a0_9, a0_10, a0_11] := good12 (bounds_u64 w0_0) (bounds_u64 w0_1) (bounds_u64 w0_2) (bounds_u64 w0_3) (bounds_u64 w0_4) (bounds_u64 w0_5) (bounds_u64 w0_6) (bounds_u64 w0_7) (bounds_u64 w0_8) (bounds_u64 w0_9) (bounds_u64 w0_10) (bounds_u64 w0_11)
  have hp := bounds_i64 w1_0
  have hk := bounds_i64 w1_1
  have hpc : B64 a1_2 := bounds_u64 w1_2
  have hv : B64 a1_3 := bounds_u64 w1_3
  have RC := Lib.hid ((Row.fresh w 24 (lC [a0_0, a0_1, a0_2, a0_3, a0_4, a0_5, a0_6, a0_7, a0_8, a0_9, a0_10, a0_11])).alloc (.cells #[.int .i64 a1_0, .int .i64 a1_1, .int .u64 a1_2, .int .u64 a1_3, .bool a1_4] 26))
  have RT := Lib.hid (freshB w (.cells (lC [a0_0, a0_1, a0_2, a0_3, a0_4, a0_5, a0_6, a0_7, a0_8, a0_9, a0_10, a0_11]).toArray 24) 26 [.int .i64 a1_0, .int .i64 a1_1, .int .u64 a1_2, .int .u64 a1_3, .bool a1_4])
  have G0 := Lib.hid (gr_alloc (gr_alloc (gr_refl w none) (.cells (lC [a0_0, a0_1, a0_2, a0_3, a0_4, a0_5, a0_6, a0_7, a0_8, a0_9, a0_10, a0_11]).toArray 24)) (.cells #[.int .i64 a1_0, .int .i64 a1_1, .int .u64 a1_2, .int .u64 a1_3, .bool a1_4] 26))
  have hpd : B64 a2 := bounds_u64 w2
  clear w2
  have hA : C.Good [leftV a0_0, a0_1, a0_2, a0_3, a0_4, a0_5, a0_6, a0_7, a0_8, a0_9, a0_10, a0_11] := back_good hc
  have hD : C.Good [entV a0_0 a1_0, a0_1, a0_2, a0_3, a0_4, epcV a1_2, causeV a1_4 a1_1, a1_3, a0_8, a0_9, a0_10, a0_11] := enter_good hc a1_0 hpc a1_4 a1_1 hv
  have hE : C.Good [entV (entV a0_0 a1_0) 1, a0_1, a0_2, a0_3, a0_4, epcV a2, causeV a1_4 a1_1, a1_3, a0_8, a0_9, a0_10, a0_11] := enter_good hD 1 hpd a1_4 a1_1 hv
  have B1 := Lib.hid (fun W => back12 hc W)
  have B2 := Lib.hid (fun W => back12 hA W)
  have E1 := Lib.hid (fun W => enter12 hc a1_0 a1_2 a1_4 a1_1 a1_3 hp hpc hk hv W)
  have E2 := Lib.hid (fun W => enter12 hD 1 a2 a1_4 a1_1 a1_3 (by decide) hpd hk hv W)
  have B3 := Lib.hid (fun W => back12 hE W)
  have h0 : B64 a0_0 := hc.get 0
  have h5 : B64 a0_5 := hc.get 5
  have hd0 := ent_bd h0 a1_0
  have d1 : privV (leftV a0_0) = 0 := by unfold privV; rw [left_on256 h0]; rfl
  have d2 : privV (entV (entV a0_0 a1_0) 1) = 1 := priv_ent hd0 1 (Or.inr rfl)
  have d3 : (bits .and .u64 (leftV (leftV a0_0)) 2 != 0) = true := (left_on2 (left_bd h0)).trans (left_on32 h0)
  have d4 : (bits .and .u64 (leftV (leftV a0_0)) 32 != 0) = true := left_on32 (left_bd h0)
  have d5 : bits .andNot .u64 a2 1 = epcV a2 := (epc_not hpd).symm
  have d6 : (bits .and .u64 (entV (entV a0_0 a1_0) 1) 32 == 0) = true := by
    have := (ent_on32 hd0 1).trans (ent_on2 h0 a1_0)
    unfold onV andV at this
    simpa using this
  have h6 := epc_bd hpd
  rw [d1] at B2
  rw [d2] at B3
  clear d1 d2 hd0 hA hD hE hc
  generalize leftV (leftV a0_0) = xb at *
  generalize privV a0_0 = p0 at *
  generalize leftV a0_0 = xa at *
  generalize leftV (entV (entV a0_0 a1_0) 1) = xf at *
  generalize entV (entV a0_0 a1_0) 1 = xe at *
  generalize entV a0_0 a1_0 = xd at *
  generalize epcV a1_2 = pe at *
  generalize epcV a2 = pf at *
  generalize causeV a1_4 a1_1 = ca at *
  generalize handV a0_2 a1_4 a1_1 = ha at *
  unfold B64 at h0 h5 h6 hpc hv hpd
  clear w0_0 w0_1 w0_2 w0_3 w0_4 w0_5 w0_6 w0_7 w0_8 w0_9 w0_10 w0_11 w1_0 w1_1 w1_2 w1_3
  go_enter Try.func4, Try.ntmps4
  go_wp2_with fail
  refine (shown14_c _).mono ?_
  rintro e w1 ⟨rfl, hG⟩
  have RC1 := Row.grown RC.out hG (by simp)
  have RT1 := Row.grown RT.out hG (by simp)
  have GW := gr_trans G0.out hG
  clear RC RT G0 hG
  obtain ⟨q, hq⟩ : ∃ q, w.heap.size = q := ⟨_, rfl⟩
  rw [hq] at RC1 RT1 ⊢
  have HQ := Lib.hid (show w.heap.size ≤ q by omega)
  clear hq
  obtain ⟨k0, k1, k2, k3, k4, k5, k6, k7, k8, k9, k10, k11⟩ := cells12 RC1
  obtain ⟨t0, t1, t2, t3, t4⟩ := cells5 RT1
  go_wp2_with fail
  refine (B1.out _).mono ?_
  rintro e w2 ⟨rfl, hG⟩
  clear k0 k1 k2 k3 k4 k5 k6 k7 k8 k9 k10 k11 t0 t1 t2 t3 t4
  replace RC1 := Row.grown RC1 hG (by simp)
  replace RT1 := Row.grown RT1 hG (by simp)
  replace GW := gr_trans GW hG
  clear hG
  have RA : Row (w2.alloc (.cells #[.int .u64 xa, .int .u64 a0_1, .int .u64 a0_2, .int .u64 a0_3, .int .u64 a0_4, .int .u64 a0_5, .int .u64 a0_6, .int .u64 a0_7, .int .u64 a0_8, .int .u64 a0_9, .int .u64 a0_10, .int .u64 a0_11] 24)) w2.heap.size 24 (lC [xa, a0_1, a0_2, a0_3, a0_4, a0_5, a0_6, a0_7, a0_8, a0_9, a0_10, a0_11]) := Row.fresh w2 24 (lC [xa, a0_1, a0_2, a0_3, a0_4, a0_5, a0_6, a0_7, a0_8, a0_9, a0_10, a0_11])
  have apb2RC1 := RC1.lt
  have apb2RT1 := RT1.lt
  replace RC1 := Row.alloc RC1 (.cells #[.int .u64 xa, .int .u64 a0_1, .int .u64 a0_2, .int .u64 a0_3, .int .u64 a0_4, .int .u64 a0_5, .int .u64 a0_6, .int .u64 a0_7, .int .u64 a0_8, .int .u64 a0_9, .int .u64 a0_10, .int .u64 a0_11] 24)
  replace RT1 := Row.alloc RT1 (.cells #[.int .u64 xa, .int .u64 a0_1, .int .u64 a0_2, .int .u64 a0_3, .int .u64 a0_4, .int .u64 a0_5, .int .u64 a0_6, .int .u64 a0_7, .int .u64 a0_8, .int .u64 a0_9, .int .u64 a0_10, .int .u64 a0_11] 24)
  replace GW := gr_alloc GW (.cells #[.int .u64 xa, .int .u64 a0_1, .int .u64 a0_2, .int .u64 a0_3, .int .u64 a0_4, .int .u64 a0_5, .int .u64 a0_6, .int .u64 a0_7, .int .u64 a0_8, .int .u64 a0_9, .int .u64 a0_10, .int .u64 a0_11] 24)
  clear apb2RC1 apb2RT1
  obtain ⟨k0, k1, k2, k3, k4, k5, k6, k7, k8, k9, k10, k11⟩ := cells12 RC1
  obtain ⟨t0, t1, t2, t3, t4⟩ := cells5 RT1
  obtain ⟨x0, x1, x2, x3, x4, x5, x6, x7, x8, x9, x10, x11⟩ := cells12 RA
  go_wp2_with fail
  generalize w2.alloc (.cells #[.int .u64 xa, .int .u64 a0_1, .int .u64 a0_2, .int .u64 a0_3, .int .u64 a0_4, .int .u64 a0_5, .int .u64 a0_6, .int .u64 a0_7, .int .u64 a0_8, .int .u64 a0_9, .int .u64 a0_10, .int .u64 a0_11] 24) = Vb2 at *
  generalize w2.heap.size = b2 at *
  refine (B2.out _).mono ?_
  rintro e w3 ⟨rfl, hG⟩
  clear k0 k1 k2 k3 k4 k5 k6 k7 k8 k9 k10 k11 t0 t1 t2 t3 t4 x0 x1 x2 x3 x4 x5 x6 x7 x8 x9 x10 x11
  replace RC1 := Row.grown RC1 hG (by simp)
  replace RT1 := Row.grown RT1 hG (by simp)
  replace RA := Row.grown RA hG (by simp)
  replace GW := gr_trans GW hG
  clear hG
  have RB : Row (w3.alloc (.cells #[.int .u64 xb, .int .u64 a0_1, .int .u64 a0_2, .int .u64 a0_3, .int .u64 a0_4, .int .u64 a0_5, .int .u64 a0_6, .int .u64 a0_7, .int .u64 a0_8, .int .u64 a0_9, .int .u64 a0_10, .int .u64 a0_11] 24)) w3.heap.size 24 (lC [xb, a0_1, a0_2, a0_3, a0_4, a0_5, a0_6, a0_7, a0_8, a0_9, a0_10, a0_11]) := Row.fresh w3 24 (lC [xb, a0_1, a0_2, a0_3, a0_4, a0_5, a0_6, a0_7, a0_8, a0_9, a0_10, a0_11])
  have apb3RC1 := RC1.lt
  have apb3RT1 := RT1.lt
  have apb3RA := RA.lt
  replace RC1 := Row.alloc RC1 (.cells #[.int .u64 xb, .int .u64 a0_1, .int .u64 a0_2, .int .u64 a0_3, .int .u64 a0_4, .int .u64 a0_5, .int .u64 a0_6, .int .u64 a0_7, .int .u64 a0_8, .int .u64 a0_9, .int .u64 a0_10, .int .u64 a0_11] 24)
  replace RT1 := Row.alloc RT1 (.cells #[.int .u64 xb, .int .u64 a0_1, .int .u64 a0_2, .int .u64 a0_3, .int .u64 a0_4, .int .u64 a0_5, .int .u64 a0_6, .int .u64 a0_7, .int .u64 a0_8, .int .u64 a0_9, .int .u64 a0_10, .int .u64 a0_11] 24)
  replace RA := Row.alloc RA (.cells #[.int .u64 xb, .int .u64 a0_1, .int .u64 a0_2, .int .u64 a0_3, .int .u64 a0_4, .int .u64 a0_5, .int .u64 a0_6, .int .u64 a0_7, .int .u64 a0_8, .int .u64 a0_9, .int .u64 a0_10, .int .u64 a0_11] 24)
  replace GW := gr_alloc GW (.cells #[.int .u64 xb, .int .u64 a0_1, .int .u64 a0_2, .int .u64 a0_3, .int .u64 a0_4, .int .u64 a0_5, .int .u64 a0_6, .int .u64 a0_7, .int .u64 a0_8, .int .u64 a0_9, .int .u64 a0_10, .int .u64 a0_11] 24)
  clear apb3RC1 apb3RT1 apb3RA
  obtain ⟨k0, k1, k2, k3, k4, k5, k6, k7, k8, k9, k10, k11⟩ := cells12 RC1
  obtain ⟨t0, t1, t2, t3, t4⟩ := cells5 RT1
  obtain ⟨x0, x1, x2, x3, x4, x5, x6, x7, x8, x9, x10, x11⟩ := cells12 RA
  obtain ⟨y0, y1, y2, y3, y4, y5, y6, y7, y8, y9, y10, y11⟩ := cells12 RB
  go_wp2_with fail
  generalize w3.alloc (.cells #[.int .u64 xb, .int .u64 a0_1, .int .u64 a0_2, .int .u64 a0_3, .int .u64 a0_4, .int .u64 a0_5, .int .u64 a0_6, .int .u64 a0_7, .int .u64 a0_8, .int .u64 a0_9, .int .u64 a0_10, .int .u64 a0_11] 24) = Vb3 at *
  generalize w3.heap.size = b3 at *
  refine (E1.out _).mono ?_
  rintro e w4 ⟨rfl, hG⟩
  clear k0 k1 k2 k3 k4 k5 k6 k7 k8 k9 k10 k11 t0 t1 t2 t3 t4 x0 x1 x2 x3 x4 x5 x6 x7 x8 x9 x10 x11 y0 y1 y2 y3 y4 y5 y6 y7 y8 y9 y10 y11
  replace RC1 := Row.grown RC1 hG (by simp)
  replace RT1 := Row.grown RT1 hG (by simp)
  replace RA := Row.grown RA hG (by simp)
  replace RB := Row.grown RB hG (by simp)
  replace GW := gr_trans GW hG
  clear hG
  have RD : Row (w4.alloc (.cells #[.int .u64 xd, .int .u64 a0_1, .int .u64 a0_2, .int .u64 a0_3, .int .u64 a0_4, .int .u64 pe, .int .u64 ca, .int .u64 a1_3, .int .u64 a0_8, .int .u64 a0_9, .int .u64 a0_10, .int .u64 a0_11] 24)) w4.heap.size 24 (lC [xd, a0_1, a0_2, a0_3, a0_4, pe, ca, a1_3, a0_8, a0_9, a0_10, a0_11]) := Row.fresh w4 24 (lC [xd, a0_1, a0_2, a0_3, a0_4, pe, ca, a1_3, a0_8, a0_9, a0_10, a0_11])
  have apb4RC1 := RC1.lt
  have apb4RT1 := RT1.lt
  have apb4RA := RA.lt
  have apb4RB := RB.lt
  replace RC1 := Row.alloc RC1 (.cells #[.int .u64 xd, .int .u64 a0_1, .int .u64 a0_2, .int .u64 a0_3, .int .u64 a0_4, .int .u64 pe, .int .u64 ca, .int .u64 a1_3, .int .u64 a0_8, .int .u64 a0_9, .int .u64 a0_10, .int .u64 a0_11] 24)
  replace RT1 := Row.alloc RT1 (.cells #[.int .u64 xd, .int .u64 a0_1, .int .u64 a0_2, .int .u64 a0_3, .int .u64 a0_4, .int .u64 pe, .int .u64 ca, .int .u64 a1_3, .int .u64 a0_8, .int .u64 a0_9, .int .u64 a0_10, .int .u64 a0_11] 24)
  replace RA := Row.alloc RA (.cells #[.int .u64 xd, .int .u64 a0_1, .int .u64 a0_2, .int .u64 a0_3, .int .u64 a0_4, .int .u64 pe, .int .u64 ca, .int .u64 a1_3, .int .u64 a0_8, .int .u64 a0_9, .int .u64 a0_10, .int .u64 a0_11] 24)
  replace RB := Row.alloc RB (.cells #[.int .u64 xd, .int .u64 a0_1, .int .u64 a0_2, .int .u64 a0_3, .int .u64 a0_4, .int .u64 pe, .int .u64 ca, .int .u64 a1_3, .int .u64 a0_8, .int .u64 a0_9, .int .u64 a0_10, .int .u64 a0_11] 24)
  replace GW := gr_alloc GW (.cells #[.int .u64 xd, .int .u64 a0_1, .int .u64 a0_2, .int .u64 a0_3, .int .u64 a0_4, .int .u64 pe, .int .u64 ca, .int .u64 a1_3, .int .u64 a0_8, .int .u64 a0_9, .int .u64 a0_10, .int .u64 a0_11] 24)
  clear apb4RC1 apb4RT1 apb4RA apb4RB
  obtain ⟨k0, k1, k2, k3, k4, k5, k6, k7, k8, k9, k10, k11⟩ := cells12 RC1
  obtain ⟨t0, t1, t2, t3, t4⟩ := cells5 RT1
  obtain ⟨x0, x1, x2, x3, x4, x5, x6, x7, x8, x9, x10, x11⟩ := cells12 RA
  obtain ⟨y0, y1, y2, y3, y4, y5, y6, y7, y8, y9, y10, y11⟩ := cells12 RB
  obtain ⟨z0, z1, z2, z3, z4, z5, z6, z7, z8, z9, z10, z11⟩ := cells12 RD
  go_wp2_with fail
  generalize w4.alloc (.cells #[.int .u64 xd, .int .u64 a0_1, .int .u64 a0_2, .int .u64 a0_3, .int .u64 a0_4, .int .u64 pe, .int .u64 ca, .int .u64 a1_3, .int .u64 a0_8, .int .u64 a0_9, .int .u64 a0_10, .int .u64 a0_11] 24) = Vb4 at *
  generalize w4.heap.size = b4 at *
  refine (E2.out _).mono ?_
  rintro e w5 ⟨rfl, hG⟩
  clear k0 k1 k2 k3 k4 k5 k6 k7 k8 k9 k10 k11 t0 t1 t2 t3 t4 x0 x1 x2 x3 x4 x5 x6 x7 x8 x9 x10 x11 y0 y1 y2 y3 y4 y5 y6 y7 y8 y9 y10 y11 z0 z1 z2 z3 z4 z5 z6 z7 z8 z9 z10 z11
  replace RC1 := Row.grown RC1 hG (by simp)
  replace RT1 := Row.grown RT1 hG (by simp)
  replace RA := Row.grown RA hG (by simp)
  replace RB := Row.grown RB hG (by simp)
  replace RD := Row.grown RD hG (by simp)
  replace GW := gr_trans GW hG
  clear hG
  have RE : Row (w5.alloc (.cells #[.int .u64 xe, .int .u64 a0_1, .int .u64 a0_2, .int .u64 a0_3, .int .u64 a0_4, .int .u64 pf, .int .u64 ca, .int .u64 a1_3, .int .u64 a0_8, .int .u64 a0_9, .int .u64 a0_10, .int .u64 a0_11] 24)) w5.heap.size 24 (lC [xe, a0_1, a0_2, a0_3, a0_4, pf, ca, a1_3, a0_8, a0_9, a0_10, a0_11]) := Row.fresh w5 24 (lC [xe, a0_1, a0_2, a0_3, a0_4, pf, ca, a1_3, a0_8, a0_9, a0_10, a0_11])
  have apb5RC1 := RC1.lt
  have apb5RT1 := RT1.lt
  have apb5RA := RA.lt
  have apb5RB := RB.lt
  have apb5RD := RD.lt
  replace RC1 := Row.alloc RC1 (.cells #[.int .u64 xe, .int .u64 a0_1, .int .u64 a0_2, .int .u64 a0_3, .int .u64 a0_4, .int .u64 pf, .int .u64 ca, .int .u64 a1_3, .int .u64 a0_8, .int .u64 a0_9, .int .u64 a0_10, .int .u64 a0_11] 24)
  replace RT1 := Row.alloc RT1 (.cells #[.int .u64 xe, .int .u64 a0_1, .int .u64 a0_2, .int .u64 a0_3, .int .u64 a0_4, .int .u64 pf, .int .u64 ca, .int .u64 a1_3, .int .u64 a0_8, .int .u64 a0_9, .int .u64 a0_10, .int .u64 a0_11] 24)
  replace RA := Row.alloc RA (.cells #[.int .u64 xe, .int .u64 a0_1, .int .u64 a0_2, .int .u64 a0_3, .int .u64 a0_4, .int .u64 pf, .int .u64 ca, .int .u64 a1_3, .int .u64 a0_8, .int .u64 a0_9, .int .u64 a0_10, .int .u64 a0_11] 24)
  replace RB := Row.alloc RB (.cells #[.int .u64 xe, .int .u64 a0_1, .int .u64 a0_2, .int .u64 a0_3, .int .u64 a0_4, .int .u64 pf, .int .u64 ca, .int .u64 a1_3, .int .u64 a0_8, .int .u64 a0_9, .int .u64 a0_10, .int .u64 a0_11] 24)
  replace RD := Row.alloc RD (.cells #[.int .u64 xe, .int .u64 a0_1, .int .u64 a0_2, .int .u64 a0_3, .int .u64 a0_4, .int .u64 pf, .int .u64 ca, .int .u64 a1_3, .int .u64 a0_8, .int .u64 a0_9, .int .u64 a0_10, .int .u64 a0_11] 24)
  replace GW := gr_alloc GW (.cells #[.int .u64 xe, .int .u64 a0_1, .int .u64 a0_2, .int .u64 a0_3, .int .u64 a0_4, .int .u64 pf, .int .u64 ca, .int .u64 a1_3, .int .u64 a0_8, .int .u64 a0_9, .int .u64 a0_10, .int .u64 a0_11] 24)
  clear apb5RC1 apb5RT1 apb5RA apb5RB apb5RD
  obtain ⟨k0, k1, k2, k3, k4, k5, k6, k7, k8, k9, k10, k11⟩ := cells12 RC1
  obtain ⟨t0, t1, t2, t3, t4⟩ := cells5 RT1
  obtain ⟨x0, x1, x2, x3, x4, x5, x6, x7, x8, x9, x10, x11⟩ := cells12 RA
  obtain ⟨y0, y1, y2, y3, y4, y5, y6, y7, y8, y9, y10, y11⟩ := cells12 RB
  obtain ⟨z0, z1, z2, z3, z4, z5, z6, z7, z8, z9, z10, z11⟩ := cells12 RD
  obtain ⟨m0, m1, m2, m3, m4, m5, m6, m7, m8, m9, m10, m11⟩ := cells12 RE
  go_wp2_with fail
  generalize w5.alloc (.cells #[.int .u64 xe, .int .u64 a0_1, .int .u64 a0_2, .int .u64 a0_3, .int .u64 a0_4, .int .u64 pf, .int .u64 ca, .int .u64 a1_3, .int .u64 a0_8, .int .u64 a0_9, .int .u64 a0_10, .int .u64 a0_11] 24) = Vb5 at *
  generalize w5.heap.size = b5 at *
  refine (B3.out _).mono ?_
  rintro e w6 ⟨rfl, hG⟩
  clear k0 k1 k2 k3 k4 k5 k6 k7 k8 k9 k10 k11 t0 t1 t2 t3 t4 x0 x1 x2 x3 x4 x5 x6 x7 x8 x9 x10 x11 y0 y1 y2 y3 y4 y5 y6 y7 y8 y9 y10 y11 z0 z1 z2 z3 z4 z5 z6 z7 z8 z9 z10 z11 m0 m1 m2 m3 m4 m5 m6 m7 m8 m9 m10 m11
  replace RC1 := Row.grown RC1 hG (by simp)
  replace RT1 := Row.grown RT1 hG (by simp)
  replace RA := Row.grown RA hG (by simp)
  replace RB := Row.grown RB hG (by simp)
  replace RD := Row.grown RD hG (by simp)
  replace RE := Row.grown RE hG (by simp)
  replace GW := gr_trans GW hG
  clear hG
  have RF : Row (w6.alloc (.cells #[.int .u64 xf, .int .u64 a0_1, .int .u64 a0_2, .int .u64 a0_3, .int .u64 a0_4, .int .u64 pf, .int .u64 ca, .int .u64 a1_3, .int .u64 a0_8, .int .u64 a0_9, .int .u64 a0_10, .int .u64 a0_11] 24)) w6.heap.size 24 (lC [xf, a0_1, a0_2, a0_3, a0_4, pf, ca, a1_3, a0_8, a0_9, a0_10, a0_11]) := Row.fresh w6 24 (lC [xf, a0_1, a0_2, a0_3, a0_4, pf, ca, a1_3, a0_8, a0_9, a0_10, a0_11])
  have apb6RC1 := RC1.lt
  have apb6RT1 := RT1.lt
  have apb6RA := RA.lt
  have apb6RB := RB.lt
  have apb6RD := RD.lt
  have apb6RE := RE.lt
  replace RC1 := Row.alloc RC1 (.cells #[.int .u64 xf, .int .u64 a0_1, .int .u64 a0_2, .int .u64 a0_3, .int .u64 a0_4, .int .u64 pf, .int .u64 ca, .int .u64 a1_3, .int .u64 a0_8, .int .u64 a0_9, .int .u64 a0_10, .int .u64 a0_11] 24)
  replace RT1 := Row.alloc RT1 (.cells #[.int .u64 xf, .int .u64 a0_1, .int .u64 a0_2, .int .u64 a0_3, .int .u64 a0_4, .int .u64 pf, .int .u64 ca, .int .u64 a1_3, .int .u64 a0_8, .int .u64 a0_9, .int .u64 a0_10, .int .u64 a0_11] 24)
  replace RA := Row.alloc RA (.cells #[.int .u64 xf, .int .u64 a0_1, .int .u64 a0_2, .int .u64 a0_3, .int .u64 a0_4, .int .u64 pf, .int .u64 ca, .int .u64 a1_3, .int .u64 a0_8, .int .u64 a0_9, .int .u64 a0_10, .int .u64 a0_11] 24)
  replace RB := Row.alloc RB (.cells #[.int .u64 xf, .int .u64 a0_1, .int .u64 a0_2, .int .u64 a0_3, .int .u64 a0_4, .int .u64 pf, .int .u64 ca, .int .u64 a1_3, .int .u64 a0_8, .int .u64 a0_9, .int .u64 a0_10, .int .u64 a0_11] 24)
  replace RD := Row.alloc RD (.cells #[.int .u64 xf, .int .u64 a0_1, .int .u64 a0_2, .int .u64 a0_3, .int .u64 a0_4, .int .u64 pf, .int .u64 ca, .int .u64 a1_3, .int .u64 a0_8, .int .u64 a0_9, .int .u64 a0_10, .int .u64 a0_11] 24)
  replace RE := Row.alloc RE (.cells #[.int .u64 xf, .int .u64 a0_1, .int .u64 a0_2, .int .u64 a0_3, .int .u64 a0_4, .int .u64 pf, .int .u64 ca, .int .u64 a1_3, .int .u64 a0_8, .int .u64 a0_9, .int .u64 a0_10, .int .u64 a0_11] 24)
  replace GW := gr_alloc GW (.cells #[.int .u64 xf, .int .u64 a0_1, .int .u64 a0_2, .int .u64 a0_3, .int .u64 a0_4, .int .u64 pf, .int .u64 ca, .int .u64 a1_3, .int .u64 a0_8, .int .u64 a0_9, .int .u64 a0_10, .int .u64 a0_11] 24)
  clear apb6RC1 apb6RT1 apb6RA apb6RB apb6RD apb6RE
  obtain ⟨k0, k1, k2, k3, k4, k5, k6, k7, k8, k9, k10, k11⟩ := cells12 RC1
  obtain ⟨t0, t1, t2, t3, t4⟩ := cells5 RT1
  obtain ⟨x0, x1, x2, x3, x4, x5, x6, x7, x8, x9, x10, x11⟩ := cells12 RA
  obtain ⟨y0, y1, y2, y3, y4, y5, y6, y7, y8, y9, y10, y11⟩ := cells12 RB
  obtain ⟨z0, z1, z2, z3, z4, z5, z6, z7, z8, z9, z10, z11⟩ := cells12 RD
  obtain ⟨m0, m1, m2, m3, m4, m5, m6, m7, m8, m9, m10, m11⟩ := cells12 RE
  obtain ⟨n0, n1, n2, n3, n4, n5, n6, n7, n8, n9, n10, n11⟩ := cells12 RF
  go_wp2_with fail
  go_ret
  exact ⟨rfl, gr_below GW⟩

theorem own : ownKnob Try.prog.godebug = none := by kernel_rfl
theorem laidOut : laidOutB Try.prog = true := by kernel_rfl

set_option maxRecDepth 100000 in
theorem lifted (os : Os) (started : os.Started) (H : Type) (enc : TypeId × Value → H) :
    ReturnsInHanded {} Try.checked os 4 .any (Rows.trapTwiceSpec.pre6 enc Try.prog Try.f4 Rows.trapTwiceRow.domain false) (Rows.trapTwiceSpec.post enc Try.prog Try.f4 false true false false) := by
  refine returnsInHanded_of_change (C := Try.checked) own started (by kernel_rfl) Try.func4
    (ChangeSpec.witness6 (enc := enc) (C := Try.checked) false ⟨#[], #[.agg #[.int .u64 0, .int .u64 0, .int .u64 0, .int .u64 0, .int .u64 0, .int .u64 0, .int .u64 0, .int .u64 0, .int .u64 0, .int .u64 0, .int .u64 0, .int .u64 0], .agg #[.int .i64 0, .int .i64 0, .int .u64 0, .int .u64 0, .bool false], .int .u64 0], []⟩ 8 (by kernel_rfl) (by kernel_rfl) (by kernel_rfl) (by kernel_rfl)) ?_
  intro W base args ds gs before hval0 hW hcnd _
  have hval : ∀ (j : Nat) t v, Try.f4.params[j]? = some t → args[j]? = some v → Value.okWide Try.prog W .any base t v := hval0
  have hW' := hW
  obtain ⟨p, q, hA0, hV, rfl, hfz, hnd⟩ := hW
  have hA : DataW.TrodAll enc Try.prog W 0 (fun _ => true) true Try.f4.params.toList args.toList ds p := hA0
  rw [Try.params4] at hA hval
  obtain ⟨v0, vs0, d0, ds0, p0, q0, hargs, rfl, rfl, h0, r0⟩ := trodAll_cons hA
  obtain ⟨v1, vs1, d1, ds1, p1, q1, rfl, rfl, rfl, h1, r1⟩ := trodAll_cons r0
  obtain ⟨v2, vs2, d2, ds2, p2, q2, rfl, rfl, rfl, h2, r2⟩ := trodAll_cons r1
  obtain ⟨rfl, rfl, rfl⟩ := trodAll_nil r2
  obtain rfl : args = #[v0, v1, v2] := by cases args; simp_all
  obtain ⟨rfl, rfl⟩ := trodVars_none hV
  clear hA0 hval0 hA
  have k0 := h0
  have lt0 : ∀ x ∈ p0, x.block < W.heap.size := by obtain ⟨m, hm⟩ := k0; exact DataW.trod_lt m _ _ _ hm
  obtain ⟨xs0, rfl, l0, m0, f0⟩ := Op.open_struct Try.underlying24 (hval 0 24 v0 rfl rfl) h0
  rw [show Try.prog.cellsOf 24 = 12 from by kernel_rfl] at l0
  obtain _ | ⟨c0_0, xs0⟩ := xs0
  · simp at l0
  obtain _ | ⟨c0_1, xs0⟩ := xs0
  · simp at l0
  obtain _ | ⟨c0_2, xs0⟩ := xs0
  · simp at l0
  obtain _ | ⟨c0_3, xs0⟩ := xs0
  · simp at l0
  obtain _ | ⟨c0_4, xs0⟩ := xs0
  · simp at l0
  obtain _ | ⟨c0_5, xs0⟩ := xs0
  · simp at l0
  obtain _ | ⟨c0_6, xs0⟩ := xs0
  · simp at l0
  obtain _ | ⟨c0_7, xs0⟩ := xs0
  · simp at l0
  obtain _ | ⟨c0_8, xs0⟩ := xs0
  · simp at l0
  obtain _ | ⟨c0_9, xs0⟩ := xs0
  · simp at l0
  obtain _ | ⟨c0_10, xs0⟩ := xs0
  · simp at l0
  obtain _ | ⟨c0_11, xs0⟩ := xs0
  · simp at l0
  obtain _ | ⟨_, _⟩ := xs0
  rotate_left
  · simp at l0
  clear h0
  obtain ⟨y0_0, g0_0⟩ := f0 0 _ rfl
  replace g0_0 : DataW.trod enc Try.prog W 0 (fun _ => true) true m0 22 [c0_0] = some y0_0 := g0_0
  obtain ⟨a0_0, e0_0, _, w0_0⟩ := DataW.trod_int Try.underlying22 g0_0
  simp at e0_0; subst e0_0
  obtain ⟨y0_1, g0_1⟩ := f0 1 _ rfl
  replace g0_1 : DataW.trod enc Try.prog W 0 (fun _ => true) true m0 22 [c0_1] = some y0_1 := g0_1
  obtain ⟨a0_1, e0_1, _, w0_1⟩ := DataW.trod_int Try.underlying22 g0_1
  simp at e0_1; subst e0_1
  obtain ⟨y0_2, g0_2⟩ := f0 2 _ rfl
  replace g0_2 : DataW.trod enc Try.prog W 0 (fun _ => true) true m0 22 [c0_2] = some y0_2 := g0_2
  obtain ⟨a0_2, e0_2, _, w0_2⟩ := DataW.trod_int Try.underlying22 g0_2
  simp at e0_2; subst e0_2
  obtain ⟨y0_3, g0_3⟩ := f0 3 _ rfl
  replace g0_3 : DataW.trod enc Try.prog W 0 (fun _ => true) true m0 22 [c0_3] = some y0_3 := g0_3
  obtain ⟨a0_3, e0_3, _, w0_3⟩ := DataW.trod_int Try.underlying22 g0_3
  simp at e0_3; subst e0_3
  obtain ⟨y0_4, g0_4⟩ := f0 4 _ rfl
  replace g0_4 : DataW.trod enc Try.prog W 0 (fun _ => true) true m0 22 [c0_4] = some y0_4 := g0_4
  obtain ⟨a0_4, e0_4, _, w0_4⟩ := DataW.trod_int Try.underlying22 g0_4
  simp at e0_4; subst e0_4
  obtain ⟨y0_5, g0_5⟩ := f0 5 _ rfl
  replace g0_5 : DataW.trod enc Try.prog W 0 (fun _ => true) true m0 22 [c0_5] = some y0_5 := g0_5
  obtain ⟨a0_5, e0_5, _, w0_5⟩ := DataW.trod_int Try.underlying22 g0_5
  simp at e0_5; subst e0_5
  obtain ⟨y0_6, g0_6⟩ := f0 6 _ rfl
  replace g0_6 : DataW.trod enc Try.prog W 0 (fun _ => true) true m0 22 [c0_6] = some y0_6 := g0_6
  obtain ⟨a0_6, e0_6, _, w0_6⟩ := DataW.trod_int Try.underlying22 g0_6
  simp at e0_6; subst e0_6
  obtain ⟨y0_7, g0_7⟩ := f0 7 _ rfl
  replace g0_7 : DataW.trod enc Try.prog W 0 (fun _ => true) true m0 22 [c0_7] = some y0_7 := g0_7
  obtain ⟨a0_7, e0_7, _, w0_7⟩ := DataW.trod_int Try.underlying22 g0_7
  simp at e0_7; subst e0_7
  obtain ⟨y0_8, g0_8⟩ := f0 8 _ rfl
  replace g0_8 : DataW.trod enc Try.prog W 0 (fun _ => true) true m0 22 [c0_8] = some y0_8 := g0_8
  obtain ⟨a0_8, e0_8, _, w0_8⟩ := DataW.trod_int Try.underlying22 g0_8
  simp at e0_8; subst e0_8
  obtain ⟨y0_9, g0_9⟩ := f0 9 _ rfl
  replace g0_9 : DataW.trod enc Try.prog W 0 (fun _ => true) true m0 22 [c0_9] = some y0_9 := g0_9
  obtain ⟨a0_9, e0_9, _, w0_9⟩ := DataW.trod_int Try.underlying22 g0_9
  simp at e0_9; subst e0_9
  obtain ⟨y0_10, g0_10⟩ := f0 10 _ rfl
  replace g0_10 : DataW.trod enc Try.prog W 0 (fun _ => true) true m0 22 [c0_10] = some y0_10 := g0_10
  obtain ⟨a0_10, e0_10, _, w0_10⟩ := DataW.trod_int Try.underlying22 g0_10
  simp at e0_10; subst e0_10
  obtain ⟨y0_11, g0_11⟩ := f0 11 _ rfl
  replace g0_11 : DataW.trod enc Try.prog W 0 (fun _ => true) true m0 22 [c0_11] = some y0_11 := g0_11
  obtain ⟨a0_11, e0_11, _, w0_11⟩ := DataW.trod_int Try.underlying22 g0_11
  simp at e0_11; subst e0_11
  have k1 := h1
  have lt1 : ∀ x ∈ p1, x.block < W.heap.size := by obtain ⟨m, hm⟩ := k1; exact DataW.trod_lt m _ _ _ hm
  obtain ⟨xs1, rfl, l1, m1, f1⟩ := Op.open_struct Try.underlying26 (hval 1 26 v1 rfl rfl) h1
  rw [show Try.prog.cellsOf 26 = 5 from by kernel_rfl] at l1
  obtain _ | ⟨c1_0, xs1⟩ := xs1
  · simp at l1
  obtain _ | ⟨c1_1, xs1⟩ := xs1
  · simp at l1
  obtain _ | ⟨c1_2, xs1⟩ := xs1
  · simp at l1
  obtain _ | ⟨c1_3, xs1⟩ := xs1
  · simp at l1
  obtain _ | ⟨c1_4, xs1⟩ := xs1
  · simp at l1
  obtain _ | ⟨_, _⟩ := xs1
  rotate_left
  · simp at l1
  clear h1
  obtain ⟨y1_0, g1_0⟩ := f1 0 _ rfl
  replace g1_0 : DataW.trod enc Try.prog W 0 (fun _ => true) true m1 3 [c1_0] = some y1_0 := g1_0
  obtain ⟨a1_0, e1_0, _, w1_0⟩ := DataW.trod_int Try.underlying3 g1_0
  simp at e1_0; subst e1_0
  obtain ⟨y1_1, g1_1⟩ := f1 1 _ rfl
  replace g1_1 : DataW.trod enc Try.prog W 0 (fun _ => true) true m1 3 [c1_1] = some y1_1 := g1_1
  obtain ⟨a1_1, e1_1, _, w1_1⟩ := DataW.trod_int Try.underlying3 g1_1
  simp at e1_1; subst e1_1
  obtain ⟨y1_2, g1_2⟩ := f1 2 _ rfl
  replace g1_2 : DataW.trod enc Try.prog W 0 (fun _ => true) true m1 22 [c1_2] = some y1_2 := g1_2
  obtain ⟨a1_2, e1_2, _, w1_2⟩ := DataW.trod_int Try.underlying22 g1_2
  simp at e1_2; subst e1_2
  obtain ⟨y1_3, g1_3⟩ := f1 3 _ rfl
  replace g1_3 : DataW.trod enc Try.prog W 0 (fun _ => true) true m1 22 [c1_3] = some y1_3 := g1_3
  obtain ⟨a1_3, e1_3, _, w1_3⟩ := DataW.trod_int Try.underlying22 g1_3
  simp at e1_3; subst e1_3
  obtain ⟨y1_4, g1_4⟩ := f1 4 _ rfl
  replace g1_4 : DataW.trod enc Try.prog W 0 (fun _ => true) true m1 4 [c1_4] = some y1_4 := g1_4
  obtain ⟨a1_4, e1_4, _⟩ := DataW.trod_bool Try.underlying4 g1_4
  simp at e1_4; subst e1_4
  have k2 := h2
  have lt2 : ∀ x ∈ p2, x.block < W.heap.size := by obtain ⟨m, hm⟩ := k2; exact DataW.trod_lt m _ _ _ hm
  obtain ⟨a2, rfl, rfl, rfl, w2⟩ := open_int Try.underlying22 (hval 2 22 v2 rfl rfl) h2
  refine (walk W a0_0 w0_0 a0_1 w0_1 a0_2 w0_2 a0_3 w0_3 a0_4 w0_4 a0_5 w0_5 a0_6 w0_6 a0_7 w0_7 a0_8 w0_8 a0_9 w0_9 a0_10 w0_10 a0_11 w0_11 a1_0 w1_0 a1_1 w1_1 a1_2 w1_2 a1_3 w1_3 a1_4 a2 w2).mono fun e W' ⟨he, bel⟩ => ?_
  subst he
  exact ⟨_, rfl, _, _, _, [], _, [], hW', trodAll_mk1 (shut_bool Try.underlying4 _), (trodAll_cons_mk (Below.trod laidOut (by kernel_rfl) (of_decide_eq_true (by kernel_rfl)) k0 bel lt0) (trodAll_cons_mk (Below.trod laidOut (by kernel_rfl) (of_decide_eq_true (by kernel_rfl)) k1 bel lt1) (trodAll_cons_mk (Below.trod laidOut (by kernel_rfl) (of_decide_eq_true (by kernel_rfl)) k2 bel lt2) trodAll_mk0))), rfl, bel.frame _, fun h => by cases h⟩

theorem over : Rows.trapTwiceRow.holds Try.pinned (OpenSpec.ofChange Rows.trapTwiceSpec) :=
  OpenClaim.holds_of_wide 4 Try.f4 rfl rfl rfl rfl rfl rfl rfl ⟨rfl, rfl, rfl, rfl, rfl⟩ rfl rfl rfl rfl rfl (by kernel_rfl) Try.func4 (by kernel_rfl)
    (of_decide_eq_true (by kernel_rfl)) (by unfold Func.isWrapper; first | (rw [if_pos (by decide +kernel)]; kernel_rfl) | (rw [if_neg (by decide +kernel)]; exact ⟨rfl, rfl⟩))
    (fun os started H enc _ => lifted os started H enc)

/-- The statement. -/
theorem proved : Rows.TrapTwiceSaid := over
#print axioms proved

end Go.Proofs.Ytkfmcbhoendocaa.trapTwice
