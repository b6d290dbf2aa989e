/-
  Proved: for any registers, value and number, the law CsrSets returns true: what sets bits, and clears them, sets and clears these alone; without a register it writes nothing; each tells what was there.
  Conditions: none beyond the statement's own.
-/
import Derived.Test.YtlbhkmigbnhngaaRows
import Derived.Test.YtlbhkmigbnhngaaOpen
import Derived.Lib.Hide
import Derived.Deep.RegionHeld3
import Derived.Test.YtlbhkmigbnhngaaCsrDo
import Derived.Test.YtlbhkmigbnhngaaCsrB
namespace Go.Proofs.Ytlbhkmigbnhngaa.csrSets
open Go Go.ChangeShapes Go.WideShapes Go.ChangeAt Go.RowKit W M D A C
set_option linter.unusedVariables false

theorem no_i64 {n m : Int} (h : n ≠ m) : (n == m) = false := by simpa using h
set_option maxRecDepth 100000 in
set_option maxHeartbeats 40000000 in
theorem walk (w : World) (a0_0 : Int) (w0_0 : (Lit.int .u64 a0_0).wf = true) (a0_1 : Int) (w0_1 : (Lit.int .u64 a0_1).wf = true) (a0_2 : Int) (w0_2 : (Lit.int .u64 a0_2).wf = true) (a0_3 : Int) (w0_3 : (Lit.int .u64 a0_3).wf = true) (a0_4 : Int) (w0_4 : (Lit.int .u64 a0_4).wf = true) (a0_5 : Int) (w0_5 : (Lit.int .u64 a0_5).wf = true) (a0_6 : Int) (w0_6 : (Lit.int .u64 a0_6).wf = true) (a0_7 : Int) (w0_7 : (Lit.int .u64 a0_7).wf = true) (a0_8 : Int) (w0_8 : (Lit.int .u64 a0_8).wf = true) (a0_9 : Int) (w0_9 : (Lit.int .u64 a0_9).wf = true) (a0_10 : Int) (w0_10 : (Lit.int .u64 a0_10).wf = true) (a0_11 : Int) (w0_11 : (Lit.int .u64 a0_11).wf = true) (a1_0 : Int) (w1_0 : (Lit.int .i64 a1_0).wf = true) (a1_1 : Int) (w1_1 : (Lit.int .i64 a1_1).wf = true) (a1_2 : Bool) (a1_3 : Int) (w1_3 : (Lit.int .u64 a1_3).wf = true) (a1_4 : Int) (w1_4 : (Lit.int .u64 a1_4).wf = true) :
    Calls Try.prog 7 #[.agg #[.int .u64 a0_0, .int .u64 a0_1, .int .u64 a0_2, .int .u64 a0_3, .int .u64 a0_4, .int .u64 a0_5, .int .u64 a0_6, .int .u64 a0_7, .int .u64 a0_8, .int .u64 a0_9, .int .u64 a0_10, .int .u64 a0_11], .agg #[.int .i64 a1_0, .int .i64 a1_1, .bool a1_2, .int .u64 a1_3, .int .u64 a1_4]] w fun e w' => e = .returned (.bool true) ∧ Below w.heap.size w w' := by
  have hc : C.Good [a0_0, a0_1, a0_2, a0_3, a0_4, a0_5, a0_6, a0_7, a0_8, a0_9, a0_10, a0_11] := good12 (bounds_u64 w0_0) (bounds_u64 w0_1) (bounds_u64 w0_2) (bounds_u64 w0_3) (bounds_u64 w0_4) (bounds_u64 w0_5) (bounds_u64 w0_6) (bounds_u64 w0_7) (bounds_u64 w0_8) (bounds_u64 w0_9) (bounds_u64 w0_10) (bounds_u64 w0_11)
  have hn := bounds_i64 w1_0
  have ht : B64 a1_3 := bounds_u64 w1_3
  have hx : B64 a1_4 := bounds_u64 w1_4
  clear w0_0 w0_1 w0_2 w0_3 w0_4 w0_5 w0_6 w0_7 w0_8 w0_9 w0_10 w0_11 w1_0 w1_1 w1_3 w1_4
  have hl := legal_good hc
  have hw := read_bd hl a1_0 ht
  have L1 := Lib.hid (fun W => Legal_c _ hc W)
  have R1 := Lib.hid (fun W => Read_c _ hl a1_0 a1_3 hn ht W)
  have M1 := Lib.hid (fun W => May_c _ hl a1_0 1 true hn (by decide) W)
  have M2 := Lib.hid (fun W => May_c _ hl a1_0 1 false hn (by decide) W)
  have D1 := Lib.hid (fun W => Do_c _ hl 1 a1_3 71 0 5 0 a1_0 0 a1_4 (by decide) ht (by decide) (by decide) hn hx W)
  have D2 := Lib.hid (fun W => Do_c _ hl 1 a1_3 72 0 5 0 a1_0 0 a1_4 (by decide) ht (by decide) (by decide) hn hx W)
  have D3 := Lib.hid (fun W => Do_c _ hl 1 a1_3 71 0 0 0 a1_0 0 a1_4 (by decide) ht (by decide) (by decide) hn hx W)
  rw [show okV (legalV [a0_0, a0_1, a0_2, a0_3, a0_4, a0_5, a0_6, a0_7, a0_8, a0_9, a0_10, a0_11]) 1 71 5 a1_0 = mayV (legalV [a0_0, a0_1, a0_2, a0_3, a0_4, a0_5, a0_6, a0_7, a0_8, a0_9, a0_10, a0_11]) a1_0 1 true from rfl] at D1
  rw [show okV (legalV [a0_0, a0_1, a0_2, a0_3, a0_4, a0_5, a0_6, a0_7, a0_8, a0_9, a0_10, a0_11]) 1 72 5 a1_0 = mayV (legalV [a0_0, a0_1, a0_2, a0_3, a0_4, a0_5, a0_6, a0_7, a0_8, a0_9, a0_10, a0_11]) a1_0 1 true from rfl] at D2
  rw [show okV (legalV [a0_0, a0_1, a0_2, a0_3, a0_4, a0_5, a0_6, a0_7, a0_8, a0_9, a0_10, a0_11]) 1 71 0 a1_0 = mayV (legalV [a0_0, a0_1, a0_2, a0_3, a0_4, a0_5, a0_6, a0_7, a0_8, a0_9, a0_10, a0_11]) a1_0 1 false from rfl, show C.doV (legalV [a0_0, a0_1, a0_2, a0_3, a0_4, a0_5, a0_6, a0_7, a0_8, a0_9, a0_10, a0_11]) 1 a1_3 71 0 a1_0 a1_4 = legalV [a0_0, a0_1, a0_2, a0_3, a0_4, a0_5, a0_6, a0_7, a0_8, a0_9, a0_10, a0_11] from if_neg (fun h => absurd h.2 (by decide))] at D3
  have RC := Lib.hid ((Row.fresh w 24 (lC [a0_0, a0_1, a0_2, a0_3, a0_4, a0_5, a0_6, a0_7, a0_8, a0_9, a0_10, a0_11])).alloc (.cells #[.int .i64 a1_0, .int .i64 a1_1, .bool a1_2, .int .u64 a1_3, .int .u64 a1_4] 26))
  have RT := Lib.hid (freshB w (.cells (lC [a0_0, a0_1, a0_2, a0_3, a0_4, a0_5, a0_6, a0_7, a0_8, a0_9, a0_10, a0_11]).toArray 24) 26 [.int .i64 a1_0, .int .i64 a1_1, .bool a1_2, .int .u64 a1_3, .int .u64 a1_4])
  have G0 := Lib.hid (gr_alloc (gr_alloc (gr_refl w none) (.cells (lC [a0_0, a0_1, a0_2, a0_3, a0_4, a0_5, a0_6, a0_7, a0_8, a0_9, a0_10, a0_11]).toArray 24)) (.cells #[.int .i64 a1_0, .int .i64 a1_1, .bool a1_2, .int .u64 a1_3, .int .u64 a1_4] 26))
  by_cases h10 : ten a1_0
  · have hs := write_good hl a1_0 (or_bd hw hx)
    have he := write_good hl a1_0 (not_bd hw hx)
    have hup := read_bd hs a1_0 ht
    have hdn := read_bd he a1_0 ht
    have R2 := Lib.hid (fun W => Read_c _ hs a1_0 a1_3 hn ht W)
    have R3 := Lib.hid (fun W => Read_c _ he a1_0 a1_3 hn ht W)
    have HS := Lib.hid (fun h9 => sets_ten hc a1_0 a1_3 a1_4 hx h10 h9)
    have m1 := may_ten (legalV [a0_0, a0_1, a0_2, a0_3, a0_4, a0_5, a0_6, a0_7, a0_8, a0_9, a0_10, a0_11]) a1_0 h10 true
    have m2 := may_ten (legalV [a0_0, a0_1, a0_2, a0_3, a0_4, a0_5, a0_6, a0_7, a0_8, a0_9, a0_10, a0_11]) a1_0 h10 false
    rw [show C.doV (legalV [a0_0, a0_1, a0_2, a0_3, a0_4, a0_5, a0_6, a0_7, a0_8, a0_9, a0_10, a0_11]) 1 a1_3 71 5 a1_0 a1_4 = writeV (legalV [a0_0, a0_1, a0_2, a0_3, a0_4, a0_5, a0_6, a0_7, a0_8, a0_9, a0_10, a0_11]) a1_0 (orV (readV (legalV [a0_0, a0_1, a0_2, a0_3, a0_4, a0_5, a0_6, a0_7, a0_8, a0_9, a0_10, a0_11]) a1_0 a1_3) a1_4) from if_pos ⟨m1, rfl⟩, show toldV (legalV [a0_0, a0_1, a0_2, a0_3, a0_4, a0_5, a0_6, a0_7, a0_8, a0_9, a0_10, a0_11]) 1 a1_3 71 5 a1_0 = readV (legalV [a0_0, a0_1, a0_2, a0_3, a0_4, a0_5, a0_6, a0_7, a0_8, a0_9, a0_10, a0_11]) a1_0 a1_3 from if_pos m1, m1] at D1
    rw [show C.doV (legalV [a0_0, a0_1, a0_2, a0_3, a0_4, a0_5, a0_6, a0_7, a0_8, a0_9, a0_10, a0_11]) 1 a1_3 72 5 a1_0 a1_4 = writeV (legalV [a0_0, a0_1, a0_2, a0_3, a0_4, a0_5, a0_6, a0_7, a0_8, a0_9, a0_10, a0_11]) a1_0 (notV (readV (legalV [a0_0, a0_1, a0_2, a0_3, a0_4, a0_5, a0_6, a0_7, a0_8, a0_9, a0_10, a0_11]) a1_0 a1_3) a1_4) from if_pos ⟨m1, rfl⟩, show toldV (legalV [a0_0, a0_1, a0_2, a0_3, a0_4, a0_5, a0_6, a0_7, a0_8, a0_9, a0_10, a0_11]) 1 a1_3 72 5 a1_0 = readV (legalV [a0_0, a0_1, a0_2, a0_3, a0_4, a0_5, a0_6, a0_7, a0_8, a0_9, a0_10, a0_11]) a1_0 a1_3 from if_pos m1, m1] at D2
    rw [show toldV (legalV [a0_0, a0_1, a0_2, a0_3, a0_4, a0_5, a0_6, a0_7, a0_8, a0_9, a0_10, a0_11]) 1 a1_3 71 0 a1_0 = readV (legalV [a0_0, a0_1, a0_2, a0_3, a0_4, a0_5, a0_6, a0_7, a0_8, a0_9, a0_10, a0_11]) a1_0 a1_3 from if_pos m2, m2] at D3
    rw [m1] at M1
    rw [m2] at M2
    clear m1 m2
    generalize readV (writeV (legalV [a0_0, a0_1, a0_2, a0_3, a0_4, a0_5, a0_6, a0_7, a0_8, a0_9, a0_10, a0_11]) a1_0 (orV (readV (legalV [a0_0, a0_1, a0_2, a0_3, a0_4, a0_5, a0_6, a0_7, a0_8, a0_9, a0_10, a0_11]) a1_0 a1_3) a1_4)) a1_0 a1_3 = up at *
    generalize readV (writeV (legalV [a0_0, a0_1, a0_2, a0_3, a0_4, a0_5, a0_6, a0_7, a0_8, a0_9, a0_10, a0_11]) a1_0 (notV (readV (legalV [a0_0, a0_1, a0_2, a0_3, a0_4, a0_5, a0_6, a0_7, a0_8, a0_9, a0_10, a0_11]) a1_0 a1_3) a1_4)) a1_0 a1_3 = dn at *
    generalize writeV (legalV [a0_0, a0_1, a0_2, a0_3, a0_4, a0_5, a0_6, a0_7, a0_8, a0_9, a0_10, a0_11]) a1_0 (orV (readV (legalV [a0_0, a0_1, a0_2, a0_3, a0_4, a0_5, a0_6, a0_7, a0_8, a0_9, a0_10, a0_11]) a1_0 a1_3) a1_4) = sR at *
    generalize writeV (legalV [a0_0, a0_1, a0_2, a0_3, a0_4, a0_5, a0_6, a0_7, a0_8, a0_9, a0_10, a0_11]) a1_0 (notV (readV (legalV [a0_0, a0_1, a0_2, a0_3, a0_4, a0_5, a0_6, a0_7, a0_8, a0_9, a0_10, a0_11]) a1_0 a1_3) a1_4) = eR at *
    generalize readV (legalV [a0_0, a0_1, a0_2, a0_3, a0_4, a0_5, a0_6, a0_7, a0_8, a0_9, a0_10, a0_11]) a1_0 a1_3 = was at *
    generalize legalV [a0_0, a0_1, a0_2, a0_3, a0_4, a0_5, a0_6, a0_7, a0_8, a0_9, a0_10, a0_11] = lR at *
    obtain ⟨l0, l1, l2, l3, l4, l5, l6, l7, l8, l9, l10, l11, rfl⟩ := twelve hl.1
    obtain ⟨s0, s1, s2, s3, s4, s5, s6, s7, s8, s9, s10, s11, rfl⟩ := twelve hs.1
    obtain ⟨e0, e1, e2, e3, e4, e5, e6, e7, e8, e9, e10, e11, rfl⟩ := twelve he.1
    unfold vD at D1 D2 D3
    rw [vC_12] at L1 R1 R2 R3 M1 M2 D1 D2 D3
    rw [vC_12] at L1 D1 D2
    have q1 := fun W => neq_self l0 l1 l2 l3 l4 l5 l6 l7 l8 l9 l10 l11 W
    have hor := or_bd hw hx
    unfold orV at hor
    unfold B64 at hup hdn hor
    unfold B64 at ht hx hw
    go_enter Try.func7, Try.ntmps7
    go_wp2_with fail
    refine (shown_c _).mono ?_
    rintro e w1 ⟨rfl, hG⟩
    have RC1 := Row.grown RC.out hG (by simp)
    have RT1 := Row.grown RT.out hG (by simp)
    have GW := gr_trans G0.out hG
    clear RC RT G0 hG
    obtain ⟨q, hq⟩ : ∃ q, w.heap.size = q := ⟨_, rfl⟩
    rw [hq] at RC1 RT1 ⊢
    have HQ := Lib.hid (show w.heap.size ≤ q by omega)
    clear hq
    obtain ⟨k0, k1, k2, k3, k4, k5, k6, k7, k8, k9, k10, k11⟩ := cells12 RC1
    go_wp2_with fail
    refine (L1.out _).mono ?_
    rintro e w2 ⟨rfl, hG⟩
    clear k0 k1 k2 k3 k4 k5 k6 k7 k8 k9 k10 k11
    replace RC1 := Row.grown RC1 hG (by simp)
    replace RT1 := Row.grown RT1 hG (by simp)
    replace GW := gr_trans GW hG
    clear hG
    obtain ⟨k0, k1, k2, k3, k4, k5, k6, k7, k8, k9, k10, k11⟩ := cells12 RC1
    obtain ⟨t0, t1, t2, t3, t4⟩ := cells5 RT1
    have fr := RC1.free
    go_wp2_with fail
    refine (R1.out _).mono ?_
    rintro e w3 ⟨rfl, hG⟩
    clear k0 k1 k2 k3 k4 k5 k6 k7 k8 k9 k10 k11 t0 t1 t2 t3 t4
    have RC2 : Row w3 q 24 (lC [l0, l1, l2, l3, l4, l5, l6, l7, l8, l9, l10, l11]) := Row.grown (put12 RC1 rfl (.int .u64 l0) (.int .u64 l1) (.int .u64 l2) (.int .u64 l3) (.int .u64 l4) (.int .u64 l5) (.int .u64 l6) (.int .u64 l7) (.int .u64 l8) (.int .u64 l9) (.int .u64 l10) (.int .u64 l11)) hG (by simp)
    have RT2 := Row.grown (oth12 RT1 (by omega) (.int .u64 l0) (.int .u64 l1) (.int .u64 l2) (.int .u64 l3) (.int .u64 l4) (.int .u64 l5) (.int .u64 l6) (.int .u64 l7) (.int .u64 l8) (.int .u64 l9) (.int .u64 l10) (.int .u64 l11)) hG (by simp)
    have GW2 := gr_trans (gr12 GW HQ.out (.int .u64 l0) (.int .u64 l1) (.int .u64 l2) (.int .u64 l3) (.int .u64 l4) (.int .u64 l5) (.int .u64 l6) (.int .u64 l7) (.int .u64 l8) (.int .u64 l9) (.int .u64 l10) (.int .u64 l11)) hG
    clear hG fr RC1 RT1 GW
    have RC1 := RC2
    have RT1 := RT2
    have GW := GW2
    clear RC2 RT2 GW2
    obtain ⟨k0, k1, k2, k3, k4, k5, k6, k7, k8, k9, k10, k11⟩ := cells12 RC1
    obtain ⟨t0, t1, t2, t3, t4⟩ := cells5 RT1
    go_wp2_with fail
    refine (M1.out _).mono ?_
    rintro e w4 ⟨rfl, hG⟩
    clear k0 k1 k2 k3 k4 k5 k6 k7 k8 k9 k10 k11 t0 t1 t2 t3 t4
    replace RC1 := Row.grown RC1 hG (by simp)
    replace RT1 := Row.grown RT1 hG (by simp)
    replace GW := gr_trans GW hG
    clear hG
    obtain ⟨k0, k1, k2, k3, k4, k5, k6, k7, k8, k9, k10, k11⟩ := cells12 RC1
    obtain ⟨t0, t1, t2, t3, t4⟩ := cells5 RT1
    go_wp2_with fail
    refine (D1.out _).mono ?_
    rintro e w5 ⟨rfl, hG⟩
    clear k0 k1 k2 k3 k4 k5 k6 k7 k8 k9 k10 k11 t0 t1 t2 t3 t4
    replace RC1 := Row.grown RC1 hG (by simp)
    replace RT1 := Row.grown RT1 hG (by simp)
    replace GW := gr_trans GW hG
    clear hG
    have R8 : Row (w5.alloc (.cells #[.int .u64 s0, .int .u64 s1, .int .u64 s2, .int .u64 s3, .int .u64 s4, .int .u64 s5, .int .u64 s6, .int .u64 s7, .int .u64 s8, .int .u64 s9, .int .u64 s10, .int .u64 s11] 24)) w5.heap.size 24 (lC [s0, s1, s2, s3, s4, s5, s6, s7, s8, s9, s10, s11]) := Row.fresh w5 24 (lC [s0, s1, s2, s3, s4, s5, s6, s7, s8, s9, s10, s11])
    replace RC1 := Row.alloc RC1 (.cells #[.int .u64 s0, .int .u64 s1, .int .u64 s2, .int .u64 s3, .int .u64 s4, .int .u64 s5, .int .u64 s6, .int .u64 s7, .int .u64 s8, .int .u64 s9, .int .u64 s10, .int .u64 s11] 24)
    replace RT1 := Row.alloc RT1 (.cells #[.int .u64 s0, .int .u64 s1, .int .u64 s2, .int .u64 s3, .int .u64 s4, .int .u64 s5, .int .u64 s6, .int .u64 s7, .int .u64 s8, .int .u64 s9, .int .u64 s10, .int .u64 s11] 24)
    replace GW := gr_alloc GW (.cells #[.int .u64 s0, .int .u64 s1, .int .u64 s2, .int .u64 s3, .int .u64 s4, .int .u64 s5, .int .u64 s6, .int .u64 s7, .int .u64 s8, .int .u64 s9, .int .u64 s10, .int .u64 s11] 24)
    have hK0 := True.intro
    skip
    obtain ⟨k0, k1, k2, k3, k4, k5, k6, k7, k8, k9, k10, k11⟩ := cells12 RC1
    obtain ⟨t0, t1, t2, t3, t4⟩ := cells5 RT1
    go_wp2_with fail
    generalize hV : w5.alloc (.cells #[.int .u64 s0, .int .u64 s1, .int .u64 s2, .int .u64 s3, .int .u64 s4, .int .u64 s5, .int .u64 s6, .int .u64 s7, .int .u64 s8, .int .u64 s9, .int .u64 s10, .int .u64 s11] 24) = V8 at *
    clear hV
    generalize w5.heap.size = b8 at *
    refine (D2.out _).mono ?_
    rintro e w6 ⟨rfl, hG⟩
    clear k0 k1 k2 k3 k4 k5 k6 k7 k8 k9 k10 k11 t0 t1 t2 t3 t4
    replace RC1 := Row.grown RC1 hG (by simp)
    replace RT1 := Row.grown RT1 hG (by simp)
    replace R8 := Row.grown R8 hG (by simp)
    replace GW := gr_trans GW hG
    clear hG
    have R11 : Row (w6.alloc (.cells #[.int .u64 e0, .int .u64 e1, .int .u64 e2, .int .u64 e3, .int .u64 e4, .int .u64 e5, .int .u64 e6, .int .u64 e7, .int .u64 e8, .int .u64 e9, .int .u64 e10, .int .u64 e11] 24)) w6.heap.size 24 (lC [e0, e1, e2, e3, e4, e5, e6, e7, e8, e9, e10, e11]) := Row.fresh w6 24 (lC [e0, e1, e2, e3, e4, e5, e6, e7, e8, e9, e10, e11])
    replace RC1 := Row.alloc RC1 (.cells #[.int .u64 e0, .int .u64 e1, .int .u64 e2, .int .u64 e3, .int .u64 e4, .int .u64 e5, .int .u64 e6, .int .u64 e7, .int .u64 e8, .int .u64 e9, .int .u64 e10, .int .u64 e11] 24)
    replace RT1 := Row.alloc RT1 (.cells #[.int .u64 e0, .int .u64 e1, .int .u64 e2, .int .u64 e3, .int .u64 e4, .int .u64 e5, .int .u64 e6, .int .u64 e7, .int .u64 e8, .int .u64 e9, .int .u64 e10, .int .u64 e11] 24)
    replace R8 := Row.alloc R8 (.cells #[.int .u64 e0, .int .u64 e1, .int .u64 e2, .int .u64 e3, .int .u64 e4, .int .u64 e5, .int .u64 e6, .int .u64 e7, .int .u64 e8, .int .u64 e9, .int .u64 e10, .int .u64 e11] 24)
    replace GW := gr_alloc GW (.cells #[.int .u64 e0, .int .u64 e1, .int .u64 e2, .int .u64 e3, .int .u64 e4, .int .u64 e5, .int .u64 e6, .int .u64 e7, .int .u64 e8, .int .u64 e9, .int .u64 e10, .int .u64 e11] 24)
    have hK0 := True.intro
    skip
    obtain ⟨k0, k1, k2, k3, k4, k5, k6, k7, k8, k9, k10, k11⟩ := cells12 RC1
    obtain ⟨t0, t1, t2, t3, t4⟩ := cells5 RT1
    go_wp2_with fail
    generalize hV : w6.alloc (.cells #[.int .u64 e0, .int .u64 e1, .int .u64 e2, .int .u64 e3, .int .u64 e4, .int .u64 e5, .int .u64 e6, .int .u64 e7, .int .u64 e8, .int .u64 e9, .int .u64 e10, .int .u64 e11] 24) = V11 at *
    clear hV
    generalize w6.heap.size = b11 at *
    refine (D3.out _).mono ?_
    rintro e w7 ⟨rfl, hG⟩
    clear k0 k1 k2 k3 k4 k5 k6 k7 k8 k9 k10 k11 t0 t1 t2 t3 t4
    replace RC1 := Row.grown RC1 hG (by simp)
    replace RT1 := Row.grown RT1 hG (by simp)
    replace R8 := Row.grown R8 hG (by simp)
    replace R11 := Row.grown R11 hG (by simp)
    replace GW := gr_trans GW hG
    clear hG
    have R14 : Row (w7.alloc (.cells #[.int .u64 l0, .int .u64 l1, .int .u64 l2, .int .u64 l3, .int .u64 l4, .int .u64 l5, .int .u64 l6, .int .u64 l7, .int .u64 l8, .int .u64 l9, .int .u64 l10, .int .u64 l11] 24)) w7.heap.size 24 (lC [l0, l1, l2, l3, l4, l5, l6, l7, l8, l9, l10, l11]) := Row.fresh w7 24 (lC [l0, l1, l2, l3, l4, l5, l6, l7, l8, l9, l10, l11])
    replace RC1 := Row.alloc RC1 (.cells #[.int .u64 l0, .int .u64 l1, .int .u64 l2, .int .u64 l3, .int .u64 l4, .int .u64 l5, .int .u64 l6, .int .u64 l7, .int .u64 l8, .int .u64 l9, .int .u64 l10, .int .u64 l11] 24)
    replace RT1 := Row.alloc RT1 (.cells #[.int .u64 l0, .int .u64 l1, .int .u64 l2, .int .u64 l3, .int .u64 l4, .int .u64 l5, .int .u64 l6, .int .u64 l7, .int .u64 l8, .int .u64 l9, .int .u64 l10, .int .u64 l11] 24)
    replace R8 := Row.alloc R8 (.cells #[.int .u64 l0, .int .u64 l1, .int .u64 l2, .int .u64 l3, .int .u64 l4, .int .u64 l5, .int .u64 l6, .int .u64 l7, .int .u64 l8, .int .u64 l9, .int .u64 l10, .int .u64 l11] 24)
    replace R11 := Row.alloc R11 (.cells #[.int .u64 l0, .int .u64 l1, .int .u64 l2, .int .u64 l3, .int .u64 l4, .int .u64 l5, .int .u64 l6, .int .u64 l7, .int .u64 l8, .int .u64 l9, .int .u64 l10, .int .u64 l11] 24)
    replace GW := gr_alloc GW (.cells #[.int .u64 l0, .int .u64 l1, .int .u64 l2, .int .u64 l3, .int .u64 l4, .int .u64 l5, .int .u64 l6, .int .u64 l7, .int .u64 l8, .int .u64 l9, .int .u64 l10, .int .u64 l11] 24)
    have hK0 := True.intro
    skip
    obtain ⟨k0, k1, k2, k3, k4, k5, k6, k7, k8, k9, k10, k11⟩ := cells12 RC1
    obtain ⟨t0, t1, t2, t3, t4⟩ := cells5 RT1
    obtain ⟨n0, n1, n2, n3, n4, n5, n6, n7, n8, n9, n10, n11⟩ := cells12 R14
    go_wp2_with fail
    generalize hV : w7.alloc (.cells #[.int .u64 l0, .int .u64 l1, .int .u64 l2, .int .u64 l3, .int .u64 l4, .int .u64 l5, .int .u64 l6, .int .u64 l7, .int .u64 l8, .int .u64 l9, .int .u64 l10, .int .u64 l11] 24) = V14 at *
    clear hV
    generalize w7.heap.size = b14 at *
    refine (M2.out _).mono ?_
    rintro e w8 ⟨rfl, hG⟩
    clear k0 k1 k2 k3 k4 k5 k6 k7 k8 k9 k10 k11 t0 t1 t2 t3 t4 n0 n1 n2 n3 n4 n5 n6 n7 n8 n9 n10 n11
    replace RC1 := Row.grown RC1 hG (by simp)
    replace RT1 := Row.grown RT1 hG (by simp)
    replace R8 := Row.grown R8 hG (by simp)
    replace R11 := Row.grown R11 hG (by simp)
    replace R14 := Row.grown R14 hG (by simp)
    replace GW := gr_trans GW hG
    clear hG
    obtain ⟨k0, k1, k2, k3, k4, k5, k6, k7, k8, k9, k10, k11⟩ := cells12 RC1
    obtain ⟨t0, t1, t2, t3, t4⟩ := cells5 RT1
    obtain ⟨n0, n1, n2, n3, n4, n5, n6, n7, n8, n9, n10, n11⟩ := cells12 R14
    obtain ⟨s_0, s_1, s_2, s_3, s_4, s_5, s_6, s_7, s_8, s_9, s_10, s_11⟩ := cells12 R8
    obtain ⟨e_0, e_1, e_2, e_3, e_4, e_5, e_6, e_7, e_8, e_9, e_10, e_11⟩ := cells12 R11
    go_wp2_with fail
    refine (R2.out _).mono ?_
    rintro e w9 ⟨rfl, hG⟩
    clear k0 k1 k2 k3 k4 k5 k6 k7 k8 k9 k10 k11 t0 t1 t2 t3 t4 n0 n1 n2 n3 n4 n5 n6 n7 n8 n9 n10 n11 s_0 s_1 s_2 s_3 s_4 s_5 s_6 s_7 s_8 s_9 s_10 s_11 e_0 e_1 e_2 e_3 e_4 e_5 e_6 e_7 e_8 e_9 e_10 e_11
    replace RT1 := Row.grown RT1 hG (by simp)
    replace R11 := Row.grown R11 hG (by simp)
    replace GW := gr_trans GW hG
    clear hG
    obtain ⟨t0, t1, t2, t3, t4⟩ := cells5 RT1
    obtain ⟨e_0, e_1, e_2, e_3, e_4, e_5, e_6, e_7, e_8, e_9, e_10, e_11⟩ := cells12 R11
    go_wp2_with fail
    refine (R3.out _).mono ?_
    rintro e w10 ⟨rfl, hG⟩
    clear t0 t1 t2 t3 t4 e_0 e_1 e_2 e_3 e_4 e_5 e_6 e_7 e_8 e_9 e_10 e_11
    replace RT1 := Row.grown RT1 hG (by simp)
    replace GW := gr_trans GW hG
    clear hG
    obtain ⟨t0, t1, t2, t3, t4⟩ := cells5 RT1
    by_cases h9 : a1_0 = 384
    · subst h9
      go_wp2_with fail
      go_ret
      exact ⟨rfl, gr_below GW⟩
    have HS2 := HS.out h9
    have d9 := no_i64 h9
    obtain ⟨⟨u1, u2, u3⟩, u4⟩ := HS2
    unfold notV orV at u1
    unfold notV at u2 u3
    by_cases hz : andV dn a1_4 = 0
    · unfold andV at hz
      clear u4
      go_wp2_with fail
      go_ret
      exact ⟨rfl, gr_below GW⟩
    · have dz : (bits .and .u64 dn a1_4 == 0) = false := no_i64 hz
      rcases u4 with u4 | rfl | rfl
      · exact absurd u4 hz
      · skip
        clear hz h9 d9
        go_wp2_with fail
        go_ret
        exact ⟨rfl, gr_below GW⟩
      · skip
        clear hz h9 d9
        go_wp2_with fail
        go_ret
        exact ⟨rfl, gr_below GW⟩
  · have m1 := may_not (legalV [a0_0, a0_1, a0_2, a0_3, a0_4, a0_5, a0_6, a0_7, a0_8, a0_9, a0_10, a0_11]) a1_0 h10
    rw [show C.doV (legalV [a0_0, a0_1, a0_2, a0_3, a0_4, a0_5, a0_6, a0_7, a0_8, a0_9, a0_10, a0_11]) 1 a1_3 71 5 a1_0 a1_4 = legalV [a0_0, a0_1, a0_2, a0_3, a0_4, a0_5, a0_6, a0_7, a0_8, a0_9, a0_10, a0_11] from if_neg (fun h => by rw [show okV (legalV [a0_0, a0_1, a0_2, a0_3, a0_4, a0_5, a0_6, a0_7, a0_8, a0_9, a0_10, a0_11]) 1 71 5 a1_0 = mayV (legalV [a0_0, a0_1, a0_2, a0_3, a0_4, a0_5, a0_6, a0_7, a0_8, a0_9, a0_10, a0_11]) a1_0 1 true from rfl, m1] at h; exact absurd h.1 (by decide)), show toldV (legalV [a0_0, a0_1, a0_2, a0_3, a0_4, a0_5, a0_6, a0_7, a0_8, a0_9, a0_10, a0_11]) 1 a1_3 71 5 a1_0 = 0 from if_neg (fun h => by rw [show okV (legalV [a0_0, a0_1, a0_2, a0_3, a0_4, a0_5, a0_6, a0_7, a0_8, a0_9, a0_10, a0_11]) 1 71 5 a1_0 = mayV (legalV [a0_0, a0_1, a0_2, a0_3, a0_4, a0_5, a0_6, a0_7, a0_8, a0_9, a0_10, a0_11]) a1_0 1 true from rfl, m1] at h; exact absurd h (by decide)), m1] at D1
    rw [show C.doV (legalV [a0_0, a0_1, a0_2, a0_3, a0_4, a0_5, a0_6, a0_7, a0_8, a0_9, a0_10, a0_11]) 1 a1_3 72 5 a1_0 a1_4 = legalV [a0_0, a0_1, a0_2, a0_3, a0_4, a0_5, a0_6, a0_7, a0_8, a0_9, a0_10, a0_11] from if_neg (fun h => by rw [show okV (legalV [a0_0, a0_1, a0_2, a0_3, a0_4, a0_5, a0_6, a0_7, a0_8, a0_9, a0_10, a0_11]) 1 72 5 a1_0 = mayV (legalV [a0_0, a0_1, a0_2, a0_3, a0_4, a0_5, a0_6, a0_7, a0_8, a0_9, a0_10, a0_11]) a1_0 1 true from rfl, m1] at h; exact absurd h.1 (by decide)), show toldV (legalV [a0_0, a0_1, a0_2, a0_3, a0_4, a0_5, a0_6, a0_7, a0_8, a0_9, a0_10, a0_11]) 1 a1_3 72 5 a1_0 = 0 from if_neg (fun h => by rw [show okV (legalV [a0_0, a0_1, a0_2, a0_3, a0_4, a0_5, a0_6, a0_7, a0_8, a0_9, a0_10, a0_11]) 1 72 5 a1_0 = mayV (legalV [a0_0, a0_1, a0_2, a0_3, a0_4, a0_5, a0_6, a0_7, a0_8, a0_9, a0_10, a0_11]) a1_0 1 true from rfl, m1] at h; exact absurd h (by decide)), m1] at D2
    rw [m1] at M1
    clear m1
    generalize toldV (legalV [a0_0, a0_1, a0_2, a0_3, a0_4, a0_5, a0_6, a0_7, a0_8, a0_9, a0_10, a0_11]) 1 a1_3 71 0 a1_0 = t3 at *
    generalize mayV (legalV [a0_0, a0_1, a0_2, a0_3, a0_4, a0_5, a0_6, a0_7, a0_8, a0_9, a0_10, a0_11]) a1_0 1 false = mb at *
    generalize readV (legalV [a0_0, a0_1, a0_2, a0_3, a0_4, a0_5, a0_6, a0_7, a0_8, a0_9, a0_10, a0_11]) a1_0 a1_3 = was at *
    generalize legalV [a0_0, a0_1, a0_2, a0_3, a0_4, a0_5, a0_6, a0_7, a0_8, a0_9, a0_10, a0_11] = lR at *
    obtain ⟨l0, l1, l2, l3, l4, l5, l6, l7, l8, l9, l10, l11, rfl⟩ := twelve hl.1
    unfold vD at D1 D2 D3
    rw [vC_12] at L1 R1 M1 M2 D1 D2 D3
    rw [vC_12] at L1
    have q1 := fun W => neq_self l0 l1 l2 l3 l4 l5 l6 l7 l8 l9 l10 l11 W
    have q2 := fun W => eql_self l0 l1 l2 l3 l4 l5 l6 l7 l8 l9 l10 l11 W
    have mm : (mb != mb) = false := by cases mb <;> rfl
    unfold B64 at ht hx hw
    go_enter Try.func7, Try.ntmps7
    go_wp2_with fail
    refine (shown_c _).mono ?_
    rintro e w1 ⟨rfl, hG⟩
    have RC1 := Row.grown RC.out hG (by simp)
    have RT1 := Row.grown RT.out hG (by simp)
    have GW := gr_trans G0.out hG
    clear RC RT G0 hG
    obtain ⟨q, hq⟩ : ∃ q, w.heap.size = q := ⟨_, rfl⟩
    rw [hq] at RC1 RT1 ⊢
    have HQ := Lib.hid (show w.heap.size ≤ q by omega)
    clear hq
    obtain ⟨k0, k1, k2, k3, k4, k5, k6, k7, k8, k9, k10, k11⟩ := cells12 RC1
    go_wp2_with fail
    refine (L1.out _).mono ?_
    rintro e w2 ⟨rfl, hG⟩
    clear k0 k1 k2 k3 k4 k5 k6 k7 k8 k9 k10 k11
    replace RC1 := Row.grown RC1 hG (by simp)
    replace RT1 := Row.grown RT1 hG (by simp)
    replace GW := gr_trans GW hG
    clear hG
    obtain ⟨k0, k1, k2, k3, k4, k5, k6, k7, k8, k9, k10, k11⟩ := cells12 RC1
    obtain ⟨t0, t1, t2, t3, t4⟩ := cells5 RT1
    have fr := RC1.free
    go_wp2_with fail
    refine (R1.out _).mono ?_
    rintro e w3 ⟨rfl, hG⟩
    clear k0 k1 k2 k3 k4 k5 k6 k7 k8 k9 k10 k11 t0 t1 t2 t3 t4
    have RC2 : Row w3 q 24 (lC [l0, l1, l2, l3, l4, l5, l6, l7, l8, l9, l10, l11]) := Row.grown (put12 RC1 rfl (.int .u64 l0) (.int .u64 l1) (.int .u64 l2) (.int .u64 l3) (.int .u64 l4) (.int .u64 l5) (.int .u64 l6) (.int .u64 l7) (.int .u64 l8) (.int .u64 l9) (.int .u64 l10) (.int .u64 l11)) hG (by simp)
    have RT2 := Row.grown (oth12 RT1 (by omega) (.int .u64 l0) (.int .u64 l1) (.int .u64 l2) (.int .u64 l3) (.int .u64 l4) (.int .u64 l5) (.int .u64 l6) (.int .u64 l7) (.int .u64 l8) (.int .u64 l9) (.int .u64 l10) (.int .u64 l11)) hG (by simp)
    have GW2 := gr_trans (gr12 GW HQ.out (.int .u64 l0) (.int .u64 l1) (.int .u64 l2) (.int .u64 l3) (.int .u64 l4) (.int .u64 l5) (.int .u64 l6) (.int .u64 l7) (.int .u64 l8) (.int .u64 l9) (.int .u64 l10) (.int .u64 l11)) hG
    clear hG fr RC1 RT1 GW
    have RC1 := RC2
    have RT1 := RT2
    have GW := GW2
    clear RC2 RT2 GW2
    obtain ⟨k0, k1, k2, k3, k4, k5, k6, k7, k8, k9, k10, k11⟩ := cells12 RC1
    obtain ⟨t0, t1, t2, t3, t4⟩ := cells5 RT1
    go_wp2_with fail
    refine (M1.out _).mono ?_
    rintro e w4 ⟨rfl, hG⟩
    clear k0 k1 k2 k3 k4 k5 k6 k7 k8 k9 k10 k11 t0 t1 t2 t3 t4
    replace RC1 := Row.grown RC1 hG (by simp)
    replace RT1 := Row.grown RT1 hG (by simp)
    replace GW := gr_trans GW hG
    clear hG
    obtain ⟨k0, k1, k2, k3, k4, k5, k6, k7, k8, k9, k10, k11⟩ := cells12 RC1
    obtain ⟨t0, t1, t2, t3, t4⟩ := cells5 RT1
    go_wp2_with fail
    refine (D1.out _).mono ?_
    rintro e w5 ⟨rfl, hG⟩
    clear k0 k1 k2 k3 k4 k5 k6 k7 k8 k9 k10 k11 t0 t1 t2 t3 t4
    replace RC1 := Row.grown RC1 hG (by simp)
    replace RT1 := Row.grown RT1 hG (by simp)
    replace GW := gr_trans GW hG
    clear hG
    have R8 : Row (w5.alloc (.cells #[.int .u64 l0, .int .u64 l1, .int .u64 l2, .int .u64 l3, .int .u64 l4, .int .u64 l5, .int .u64 l6, .int .u64 l7, .int .u64 l8, .int .u64 l9, .int .u64 l10, .int .u64 l11] 24)) w5.heap.size 24 (lC [l0, l1, l2, l3, l4, l5, l6, l7, l8, l9, l10, l11]) := Row.fresh w5 24 (lC [l0, l1, l2, l3, l4, l5, l6, l7, l8, l9, l10, l11])
    replace RC1 := Row.alloc RC1 (.cells #[.int .u64 l0, .int .u64 l1, .int .u64 l2, .int .u64 l3, .int .u64 l4, .int .u64 l5, .int .u64 l6, .int .u64 l7, .int .u64 l8, .int .u64 l9, .int .u64 l10, .int .u64 l11] 24)
    replace RT1 := Row.alloc RT1 (.cells #[.int .u64 l0, .int .u64 l1, .int .u64 l2, .int .u64 l3, .int .u64 l4, .int .u64 l5, .int .u64 l6, .int .u64 l7, .int .u64 l8, .int .u64 l9, .int .u64 l10, .int .u64 l11] 24)
    replace GW := gr_alloc GW (.cells #[.int .u64 l0, .int .u64 l1, .int .u64 l2, .int .u64 l3, .int .u64 l4, .int .u64 l5, .int .u64 l6, .int .u64 l7, .int .u64 l8, .int .u64 l9, .int .u64 l10, .int .u64 l11] 24)
    have hK0 := True.intro
    skip
    obtain ⟨k0, k1, k2, k3, k4, k5, k6, k7, k8, k9, k10, k11⟩ := cells12 RC1
    obtain ⟨t0, t1, t2, t3, t4⟩ := cells5 RT1
    go_wp2_with fail
    generalize hV : w5.alloc (.cells #[.int .u64 l0, .int .u64 l1, .int .u64 l2, .int .u64 l3, .int .u64 l4, .int .u64 l5, .int .u64 l6, .int .u64 l7, .int .u64 l8, .int .u64 l9, .int .u64 l10, .int .u64 l11] 24) = V8 at *
    clear hV
    generalize w5.heap.size = b8 at *
    refine (D2.out _).mono ?_
    rintro e w6 ⟨rfl, hG⟩
    clear k0 k1 k2 k3 k4 k5 k6 k7 k8 k9 k10 k11 t0 t1 t2 t3 t4
    replace RC1 := Row.grown RC1 hG (by simp)
    replace RT1 := Row.grown RT1 hG (by simp)
    replace R8 := Row.grown R8 hG (by simp)
    replace GW := gr_trans GW hG
    clear hG
    have R11 : Row (w6.alloc (.cells #[.int .u64 l0, .int .u64 l1, .int .u64 l2, .int .u64 l3, .int .u64 l4, .int .u64 l5, .int .u64 l6, .int .u64 l7, .int .u64 l8, .int .u64 l9, .int .u64 l10, .int .u64 l11] 24)) w6.heap.size 24 (lC [l0, l1, l2, l3, l4, l5, l6, l7, l8, l9, l10, l11]) := Row.fresh w6 24 (lC [l0, l1, l2, l3, l4, l5, l6, l7, l8, l9, l10, l11])
    replace RC1 := Row.alloc RC1 (.cells #[.int .u64 l0, .int .u64 l1, .int .u64 l2, .int .u64 l3, .int .u64 l4, .int .u64 l5, .int .u64 l6, .int .u64 l7, .int .u64 l8, .int .u64 l9, .int .u64 l10, .int .u64 l11] 24)
    replace RT1 := Row.alloc RT1 (.cells #[.int .u64 l0, .int .u64 l1, .int .u64 l2, .int .u64 l3, .int .u64 l4, .int .u64 l5, .int .u64 l6, .int .u64 l7, .int .u64 l8, .int .u64 l9, .int .u64 l10, .int .u64 l11] 24)
    replace R8 := Row.alloc R8 (.cells #[.int .u64 l0, .int .u64 l1, .int .u64 l2, .int .u64 l3, .int .u64 l4, .int .u64 l5, .int .u64 l6, .int .u64 l7, .int .u64 l8, .int .u64 l9, .int .u64 l10, .int .u64 l11] 24)
    replace GW := gr_alloc GW (.cells #[.int .u64 l0, .int .u64 l1, .int .u64 l2, .int .u64 l3, .int .u64 l4, .int .u64 l5, .int .u64 l6, .int .u64 l7, .int .u64 l8, .int .u64 l9, .int .u64 l10, .int .u64 l11] 24)
    have hK0 := True.intro
    skip
    obtain ⟨k0, k1, k2, k3, k4, k5, k6, k7, k8, k9, k10, k11⟩ := cells12 RC1
    obtain ⟨t0, t1, t2, t3, t4⟩ := cells5 RT1
    go_wp2_with fail
    generalize hV : w6.alloc (.cells #[.int .u64 l0, .int .u64 l1, .int .u64 l2, .int .u64 l3, .int .u64 l4, .int .u64 l5, .int .u64 l6, .int .u64 l7, .int .u64 l8, .int .u64 l9, .int .u64 l10, .int .u64 l11] 24) = V11 at *
    clear hV
    generalize w6.heap.size = b11 at *
    refine (D3.out _).mono ?_
    rintro e w7 ⟨rfl, hG⟩
    clear k0 k1 k2 k3 k4 k5 k6 k7 k8 k9 k10 k11 t0 t1 t2 t3 t4
    replace RC1 := Row.grown RC1 hG (by simp)
    replace RT1 := Row.grown RT1 hG (by simp)
    replace R8 := Row.grown R8 hG (by simp)
    replace R11 := Row.grown R11 hG (by simp)
    replace GW := gr_trans GW hG
    clear hG
    have R14 : Row (w7.alloc (.cells #[.int .u64 l0, .int .u64 l1, .int .u64 l2, .int .u64 l3, .int .u64 l4, .int .u64 l5, .int .u64 l6, .int .u64 l7, .int .u64 l8, .int .u64 l9, .int .u64 l10, .int .u64 l11] 24)) w7.heap.size 24 (lC [l0, l1, l2, l3, l4, l5, l6, l7, l8, l9, l10, l11]) := Row.fresh w7 24 (lC [l0, l1, l2, l3, l4, l5, l6, l7, l8, l9, l10, l11])
    replace RC1 := Row.alloc RC1 (.cells #[.int .u64 l0, .int .u64 l1, .int .u64 l2, .int .u64 l3, .int .u64 l4, .int .u64 l5, .int .u64 l6, .int .u64 l7, .int .u64 l8, .int .u64 l9, .int .u64 l10, .int .u64 l11] 24)
    replace RT1 := Row.alloc RT1 (.cells #[.int .u64 l0, .int .u64 l1, .int .u64 l2, .int .u64 l3, .int .u64 l4, .int .u64 l5, .int .u64 l6, .int .u64 l7, .int .u64 l8, .int .u64 l9, .int .u64 l10, .int .u64 l11] 24)
    replace R8 := Row.alloc R8 (.cells #[.int .u64 l0, .int .u64 l1, .int .u64 l2, .int .u64 l3, .int .u64 l4, .int .u64 l5, .int .u64 l6, .int .u64 l7, .int .u64 l8, .int .u64 l9, .int .u64 l10, .int .u64 l11] 24)
    replace R11 := Row.alloc R11 (.cells #[.int .u64 l0, .int .u64 l1, .int .u64 l2, .int .u64 l3, .int .u64 l4, .int .u64 l5, .int .u64 l6, .int .u64 l7, .int .u64 l8, .int .u64 l9, .int .u64 l10, .int .u64 l11] 24)
    replace GW := gr_alloc GW (.cells #[.int .u64 l0, .int .u64 l1, .int .u64 l2, .int .u64 l3, .int .u64 l4, .int .u64 l5, .int .u64 l6, .int .u64 l7, .int .u64 l8, .int .u64 l9, .int .u64 l10, .int .u64 l11] 24)
    have hK0 := True.intro
    skip
    obtain ⟨k0, k1, k2, k3, k4, k5, k6, k7, k8, k9, k10, k11⟩ := cells12 RC1
    obtain ⟨t0, t1, t2, t3, t4⟩ := cells5 RT1
    obtain ⟨n0, n1, n2, n3, n4, n5, n6, n7, n8, n9, n10, n11⟩ := cells12 R14
    go_wp2_with fail
    generalize hV : w7.alloc (.cells #[.int .u64 l0, .int .u64 l1, .int .u64 l2, .int .u64 l3, .int .u64 l4, .int .u64 l5, .int .u64 l6, .int .u64 l7, .int .u64 l8, .int .u64 l9, .int .u64 l10, .int .u64 l11] 24) = V14 at *
    clear hV
    generalize w7.heap.size = b14 at *
    refine (M2.out _).mono ?_
    rintro e w8 ⟨rfl, hG⟩
    clear k0 k1 k2 k3 k4 k5 k6 k7 k8 k9 k10 k11 t0 t1 t2 t3 t4 n0 n1 n2 n3 n4 n5 n6 n7 n8 n9 n10 n11
    replace RC1 := Row.grown RC1 hG (by simp)
    replace RT1 := Row.grown RT1 hG (by simp)
    replace R8 := Row.grown R8 hG (by simp)
    replace R11 := Row.grown R11 hG (by simp)
    replace R14 := Row.grown R14 hG (by simp)
    replace GW := gr_trans GW hG
    clear hG
    obtain ⟨k0, k1, k2, k3, k4, k5, k6, k7, k8, k9, k10, k11⟩ := cells12 RC1
    obtain ⟨t0, t1, t2, t3, t4⟩ := cells5 RT1
    obtain ⟨n0, n1, n2, n3, n4, n5, n6, n7, n8, n9, n10, n11⟩ := cells12 R14
    obtain ⟨s_0, s_1, s_2, s_3, s_4, s_5, s_6, s_7, s_8, s_9, s_10, s_11⟩ := cells12 R8
    obtain ⟨e_0, e_1, e_2, e_3, e_4, e_5, e_6, e_7, e_8, e_9, e_10, e_11⟩ := cells12 R11
    go_wp2_with fail
    go_ret
    exact ⟨rfl, gr_below GW⟩

theorem own : ownKnob Try.prog.godebug = none := by kernel_rfl
theorem laidOut : laidOutB Try.prog = true := by kernel_rfl

set_option maxRecDepth 100000 in
theorem lifted (os : Os) (started : os.Started) (H : Type) (enc : TypeId × Value → H) :
    ReturnsInHanded {} Try.checked os 7 .any (Rows.csrSetsSpec.pre6 enc Try.prog Try.f7 Rows.csrSetsRow.domain false) (Rows.csrSetsSpec.post enc Try.prog Try.f7 false true false false) := by
  refine returnsInHanded_of_change (C := Try.checked) own started (by kernel_rfl) Try.func7
    (ChangeSpec.witness6 (enc := enc) (C := Try.checked) false ⟨#[], #[.agg #[.int .u64 0, .int .u64 0, .int .u64 0, .int .u64 0, .int .u64 0, .int .u64 0, .int .u64 0, .int .u64 0, .int .u64 0, .int .u64 0, .int .u64 0, .int .u64 0], .agg #[.int .i64 0, .int .i64 0, .bool false, .int .u64 0, .int .u64 0]], []⟩ 8 (by kernel_rfl) (by kernel_rfl) (by kernel_rfl) (by kernel_rfl)) ?_
  intro W base args ds gs before hval0 hW hcnd _
  have hval : ∀ (j : Nat) t v, Try.f7.params[j]? = some t → args[j]? = some v → Value.okWide Try.prog W .any base t v := hval0
  have hW' := hW
  obtain ⟨p, q, hA0, hV, rfl, hfz, hnd⟩ := hW
  have hA : DataW.TrodAll enc Try.prog W 0 (fun _ => true) true Try.f7.params.toList args.toList ds p := hA0
  rw [Try.params7] at hA hval
  obtain ⟨v0, vs0, d0, ds0, p0, q0, hargs, rfl, rfl, h0, r0⟩ := trodAll_cons hA
  obtain ⟨v1, vs1, d1, ds1, p1, q1, rfl, rfl, rfl, h1, r1⟩ := trodAll_cons r0
  obtain ⟨rfl, rfl, rfl⟩ := trodAll_nil r1
  obtain rfl : args = #[v0, v1] := by cases args; simp_all
  obtain ⟨rfl, rfl⟩ := trodVars_none hV
  clear hA0 hval0 hA
  have k0 := h0
  have lt0 : ∀ x ∈ p0, x.block < W.heap.size := by obtain ⟨m, hm⟩ := k0; exact DataW.trod_lt m _ _ _ hm
  obtain ⟨xs0, rfl, l0, m0, f0⟩ := Op.open_struct Try.underlying24 (hval 0 24 v0 rfl rfl) h0
  rw [show Try.prog.cellsOf 24 = 12 from by kernel_rfl] at l0
  obtain _ | ⟨c0_0, xs0⟩ := xs0
  · simp at l0
  obtain _ | ⟨c0_1, xs0⟩ := xs0
  · simp at l0
  obtain _ | ⟨c0_2, xs0⟩ := xs0
  · simp at l0
  obtain _ | ⟨c0_3, xs0⟩ := xs0
  · simp at l0
  obtain _ | ⟨c0_4, xs0⟩ := xs0
  · simp at l0
  obtain _ | ⟨c0_5, xs0⟩ := xs0
  · simp at l0
  obtain _ | ⟨c0_6, xs0⟩ := xs0
  · simp at l0
  obtain _ | ⟨c0_7, xs0⟩ := xs0
  · simp at l0
  obtain _ | ⟨c0_8, xs0⟩ := xs0
  · simp at l0
  obtain _ | ⟨c0_9, xs0⟩ := xs0
  · simp at l0
  obtain _ | ⟨c0_10, xs0⟩ := xs0
  · simp at l0
  obtain _ | ⟨c0_11, xs0⟩ := xs0
  · simp at l0
  obtain _ | ⟨_, _⟩ := xs0
  rotate_left
  · simp at l0
  clear h0
  obtain ⟨y0_0, g0_0⟩ := f0 0 _ rfl
  replace g0_0 : DataW.trod enc Try.prog W 0 (fun _ => true) true m0 22 [c0_0] = some y0_0 := g0_0
  obtain ⟨a0_0, e0_0, _, w0_0⟩ := DataW.trod_int Try.underlying22 g0_0
  simp at e0_0; subst e0_0
  obtain ⟨y0_1, g0_1⟩ := f0 1 _ rfl
  replace g0_1 : DataW.trod enc Try.prog W 0 (fun _ => true) true m0 22 [c0_1] = some y0_1 := g0_1
  obtain ⟨a0_1, e0_1, _, w0_1⟩ := DataW.trod_int Try.underlying22 g0_1
  simp at e0_1; subst e0_1
  obtain ⟨y0_2, g0_2⟩ := f0 2 _ rfl
  replace g0_2 : DataW.trod enc Try.prog W 0 (fun _ => true) true m0 22 [c0_2] = some y0_2 := g0_2
  obtain ⟨a0_2, e0_2, _, w0_2⟩ := DataW.trod_int Try.underlying22 g0_2
  simp at e0_2; subst e0_2
  obtain ⟨y0_3, g0_3⟩ := f0 3 _ rfl
  replace g0_3 : DataW.trod enc Try.prog W 0 (fun _ => true) true m0 22 [c0_3] = some y0_3 := g0_3
  obtain ⟨a0_3, e0_3, _, w0_3⟩ := DataW.trod_int Try.underlying22 g0_3
  simp at e0_3; subst e0_3
  obtain ⟨y0_4, g0_4⟩ := f0 4 _ rfl
  replace g0_4 : DataW.trod enc Try.prog W 0 (fun _ => true) true m0 22 [c0_4] = some y0_4 := g0_4
  obtain ⟨a0_4, e0_4, _, w0_4⟩ := DataW.trod_int Try.underlying22 g0_4
  simp at e0_4; subst e0_4
  obtain ⟨y0_5, g0_5⟩ := f0 5 _ rfl
  replace g0_5 : DataW.trod enc Try.prog W 0 (fun _ => true) true m0 22 [c0_5] = some y0_5 := g0_5
  obtain ⟨a0_5, e0_5, _, w0_5⟩ := DataW.trod_int Try.underlying22 g0_5
  simp at e0_5; subst e0_5
  obtain ⟨y0_6, g0_6⟩ := f0 6 _ rfl
  replace g0_6 : DataW.trod enc Try.prog W 0 (fun _ => true) true m0 22 [c0_6] = some y0_6 := g0_6
  obtain ⟨a0_6, e0_6, _, w0_6⟩ := DataW.trod_int Try.underlying22 g0_6
  simp at e0_6; subst e0_6
  obtain ⟨y0_7, g0_7⟩ := f0 7 _ rfl
  replace g0_7 : DataW.trod enc Try.prog W 0 (fun _ => true) true m0 22 [c0_7] = some y0_7 := g0_7
  obtain ⟨a0_7, e0_7, _, w0_7⟩ := DataW.trod_int Try.underlying22 g0_7
  simp at e0_7; subst e0_7
  obtain ⟨y0_8, g0_8⟩ := f0 8 _ rfl
  replace g0_8 : DataW.trod enc Try.prog W 0 (fun _ => true) true m0 22 [c0_8] = some y0_8 := g0_8
  obtain ⟨a0_8, e0_8, _, w0_8⟩ := DataW.trod_int Try.underlying22 g0_8
  simp at e0_8; subst e0_8
  obtain ⟨y0_9, g0_9⟩ := f0 9 _ rfl
  replace g0_9 : DataW.trod enc Try.prog W 0 (fun _ => true) true m0 22 [c0_9] = some y0_9 := g0_9
  obtain ⟨a0_9, e0_9, _, w0_9⟩ := DataW.trod_int Try.underlying22 g0_9
  simp at e0_9; subst e0_9
  obtain ⟨y0_10, g0_10⟩ := f0 10 _ rfl
  replace g0_10 : DataW.trod enc Try.prog W 0 (fun _ => true) true m0 22 [c0_10] = some y0_10 := g0_10
  obtain ⟨a0_10, e0_10, _, w0_10⟩ := DataW.trod_int Try.underlying22 g0_10
  simp at e0_10; subst e0_10
  obtain ⟨y0_11, g0_11⟩ := f0 11 _ rfl
  replace g0_11 : DataW.trod enc Try.prog W 0 (fun _ => true) true m0 22 [c0_11] = some y0_11 := g0_11
  obtain ⟨a0_11, e0_11, _, w0_11⟩ := DataW.trod_int Try.underlying22 g0_11
  simp at e0_11; subst e0_11
  have k1 := h1
  have lt1 : ∀ x ∈ p1, x.block < W.heap.size := by obtain ⟨m, hm⟩ := k1; exact DataW.trod_lt m _ _ _ hm
  obtain ⟨xs1, rfl, l1, m1, f1⟩ := Op.open_struct Try.underlying26 (hval 1 26 v1 rfl rfl) h1
  rw [show Try.prog.cellsOf 26 = 5 from by kernel_rfl] at l1
  obtain _ | ⟨c1_0, xs1⟩ := xs1
  · simp at l1
  obtain _ | ⟨c1_1, xs1⟩ := xs1
  · simp at l1
  obtain _ | ⟨c1_2, xs1⟩ := xs1
  · simp at l1
  obtain _ | ⟨c1_3, xs1⟩ := xs1
  · simp at l1
  obtain _ | ⟨c1_4, xs1⟩ := xs1
  · simp at l1
  obtain _ | ⟨_, _⟩ := xs1
  rotate_left
  · simp at l1
  clear h1
  obtain ⟨y1_0, g1_0⟩ := f1 0 _ rfl
  replace g1_0 : DataW.trod enc Try.prog W 0 (fun _ => true) true m1 3 [c1_0] = some y1_0 := g1_0
  obtain ⟨a1_0, e1_0, _, w1_0⟩ := DataW.trod_int Try.underlying3 g1_0
  simp at e1_0; subst e1_0
  obtain ⟨y1_1, g1_1⟩ := f1 1 _ rfl
  replace g1_1 : DataW.trod enc Try.prog W 0 (fun _ => true) true m1 3 [c1_1] = some y1_1 := g1_1
  obtain ⟨a1_1, e1_1, _, w1_1⟩ := DataW.trod_int Try.underlying3 g1_1
  simp at e1_1; subst e1_1
  obtain ⟨y1_2, g1_2⟩ := f1 2 _ rfl
  replace g1_2 : DataW.trod enc Try.prog W 0 (fun _ => true) true m1 4 [c1_2] = some y1_2 := g1_2
  obtain ⟨a1_2, e1_2, _⟩ := DataW.trod_bool Try.underlying4 g1_2
  simp at e1_2; subst e1_2
  obtain ⟨y1_3, g1_3⟩ := f1 3 _ rfl
  replace g1_3 : DataW.trod enc Try.prog W 0 (fun _ => true) true m1 22 [c1_3] = some y1_3 := g1_3
  obtain ⟨a1_3, e1_3, _, w1_3⟩ := DataW.trod_int Try.underlying22 g1_3
  simp at e1_3; subst e1_3
  obtain ⟨y1_4, g1_4⟩ := f1 4 _ rfl
  replace g1_4 : DataW.trod enc Try.prog W 0 (fun _ => true) true m1 22 [c1_4] = some y1_4 := g1_4
  obtain ⟨a1_4, e1_4, _, w1_4⟩ := DataW.trod_int Try.underlying22 g1_4
  simp at e1_4; subst e1_4
  refine (walk W a0_0 w0_0 a0_1 w0_1 a0_2 w0_2 a0_3 w0_3 a0_4 w0_4 a0_5 w0_5 a0_6 w0_6 a0_7 w0_7 a0_8 w0_8 a0_9 w0_9 a0_10 w0_10 a0_11 w0_11 a1_0 w1_0 a1_1 w1_1 a1_2 a1_3 w1_3 a1_4 w1_4).mono fun e W' ⟨he, bel⟩ => ?_
  subst he
  exact ⟨_, rfl, _, _, _, [], _, [], hW', trodAll_mk1 (shut_bool Try.underlying4 _), (trodAll_cons_mk (Below.trod laidOut (by kernel_rfl) (of_decide_eq_true (by kernel_rfl)) k0 bel lt0) (trodAll_cons_mk (Below.trod laidOut (by kernel_rfl) (of_decide_eq_true (by kernel_rfl)) k1 bel lt1) trodAll_mk0)), rfl, bel.frame _, fun h => by cases h⟩

theorem over : Rows.csrSetsRow.holds Try.pinned (OpenSpec.ofChange Rows.csrSetsSpec) :=
  OpenClaim.holds_of_wide 7 Try.f7 rfl rfl rfl rfl rfl rfl rfl ⟨rfl, rfl, rfl, rfl, rfl⟩ rfl rfl rfl rfl rfl (by kernel_rfl) Try.func7 (by kernel_rfl)
    (of_decide_eq_true (by kernel_rfl)) (by unfold Func.isWrapper; first | (rw [if_pos (by decide +kernel)]; kernel_rfl) | (rw [if_neg (by decide +kernel)]; exact ⟨rfl, rfl⟩))
    (fun os started H enc _ => lifted os started H enc)

/-- The statement. -/
theorem proved : Rows.CsrSetsSaid := over
#print axioms proved

end Go.Proofs.Ytlbhkmigbnhngaa.csrSets
