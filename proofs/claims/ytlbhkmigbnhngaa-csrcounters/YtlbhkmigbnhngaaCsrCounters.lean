/-
  Proved: for any registers and time, the law CsrCounters returns true: counters are read as they stand, of a supervisor always, of a user as Counteren lets, each by its bit, and are written by nobody.
  Conditions: none beyond the statement's own.
-/
import Derived.Test.YtlbhkmigbnhngaaRows
import Derived.Test.YtlbhkmigbnhngaaOpen
import Derived.Lib.Hide
import Derived.Deep.RegionHeld3
import Derived.Test.YtlbhkmigbnhngaaCsrDo
import Derived.Test.YtlbhkmigbnhngaaCsrP
namespace Go.Proofs.Ytlbhkmigbnhngaa.csrCounters
open Go Go.ChangeShapes Go.WideShapes Go.ChangeAt Go.RowKit W M D A C
set_option linter.unusedVariables false

set_option maxRecDepth 100000 in
set_option maxHeartbeats 40000000 in
theorem walk (w : World) (a0_0 : Int) (w0_0 : (Lit.int .u64 a0_0).wf = true) (a0_1 : Int) (w0_1 : (Lit.int .u64 a0_1).wf = true) (a0_2 : Int) (w0_2 : (Lit.int .u64 a0_2).wf = true) (a0_3 : Int) (w0_3 : (Lit.int .u64 a0_3).wf = true) (a0_4 : Int) (w0_4 : (Lit.int .u64 a0_4).wf = true) (a0_5 : Int) (w0_5 : (Lit.int .u64 a0_5).wf = true) (a0_6 : Int) (w0_6 : (Lit.int .u64 a0_6).wf = true) (a0_7 : Int) (w0_7 : (Lit.int .u64 a0_7).wf = true) (a0_8 : Int) (w0_8 : (Lit.int .u64 a0_8).wf = true) (a0_9 : Int) (w0_9 : (Lit.int .u64 a0_9).wf = true) (a0_10 : Int) (w0_10 : (Lit.int .u64 a0_10).wf = true) (a0_11 : Int) (w0_11 : (Lit.int .u64 a0_11).wf = true) (a1 : Int) (w1 : (Lit.int .u64 a1).wf = true) :
    Calls Try.prog 8 #[.agg #[.int .u64 a0_0, .int .u64 a0_1, .int .u64 a0_2, .int .u64 a0_3, .int .u64 a0_4, .int .u64 a0_5, .int .u64 a0_6, .int .u64 a0_7, .int .u64 a0_8, .int .u64 a0_9, .int .u64 a0_10, .int .u64 a0_11], .int .u64 a1] w fun e w' => e = .returned (.bool true) ∧ Below w.heap.size w w' := by
  have hc : C.Good [a0_0, a0_1, a0_2, a0_3, a0_4, a0_5, a0_6, a0_7, a0_8, a0_9, a0_10, a0_11] := good12 (bounds_u64 w0_0) (bounds_u64 w0_1) (bounds_u64 w0_2) (bounds_u64 w0_3) (bounds_u64 w0_4) (bounds_u64 w0_5) (bounds_u64 w0_6) (bounds_u64 w0_7) (bounds_u64 w0_8) (bounds_u64 w0_9) (bounds_u64 w0_10) (bounds_u64 w0_11)
  have ht : B64 a1 := bounds_u64 w1
  clear w0_0 w0_1 w0_2 w0_3 w0_4 w0_5 w0_6 w0_7 w0_8 w0_9 w0_10 w0_11 w1
  have h3 : B64 a0_3 := hc.get 3
  have e1 := and1 a0_3 h3
  have e2 := and1 (a0_3 / 2) (by unfold B64 at *; omega)
  have e4 := and1 (a0_3 / 4) (by unfold B64 at *; omega)
  have u0 := Lib.hid (user_eq a0_3 h3 0 (by omega))
  have u1 := Lib.hid (user_eq a0_3 h3 1 (by omega))
  have u2 := Lib.hid (user_eq a0_3 h3 2 (by omega))
  have k10 : B64 a0_10 := hc.get 10
  have k11 : B64 a0_11 := hc.get 11
  have A0 := Lib.hid (fun W => Do_c [a0_0, a0_1, a0_2, a0_3, a0_4, a0_5, a0_6, a0_7, a0_8, a0_9, a0_10, a0_11] hc 1 a1 71 3 0 0 3072 0 0 (by decide) ht (by decide) (by decide) (by decide) (by decide) W)
  have B0 := Lib.hid (fun W => Do_c [a0_0, a0_1, a0_2, a0_3, a0_4, a0_5, a0_6, a0_7, a0_8, a0_9, a0_10, a0_11] hc 0 a1 71 3 0 0 3072 0 0 (by decide) ht (by decide) (by decide) (by decide) (by decide) W)
  have C0 := Lib.hid (fun W => Do_c [a0_0, a0_1, a0_2, a0_3, a0_4, a0_5, a0_6, a0_7, a0_8, a0_9, a0_10, a0_11] hc 1 a1 71 3 1 0 3072 0 0 (by decide) ht (by decide) (by decide) (by decide) (by decide) W)
  have bu0 := Lib.hid (show mayV [a0_0, a0_1, a0_2, a0_3, a0_4, a0_5, a0_6, a0_7, a0_8, a0_9, a0_10, a0_11] 3072 0 false = (a0_3 % 2 == 1) from u0.out.trans (by rw [show ((2 ^ 0 : Nat) : Int) = 1 from rfl, Int.ediv_one]))
  rw [show C.doV [a0_0, a0_1, a0_2, a0_3, a0_4, a0_5, a0_6, a0_7, a0_8, a0_9, a0_10, a0_11] 1 a1 71 0 3072 0 = [a0_0, a0_1, a0_2, a0_3, a0_4, a0_5, a0_6, a0_7, a0_8, a0_9, a0_10, a0_11] from if_neg (fun h => absurd h.2 (by decide)), show okV [a0_0, a0_1, a0_2, a0_3, a0_4, a0_5, a0_6, a0_7, a0_8, a0_9, a0_10, a0_11] 1 71 0 3072 = true from rfl, show toldV [a0_0, a0_1, a0_2, a0_3, a0_4, a0_5, a0_6, a0_7, a0_8, a0_9, a0_10, a0_11] 1 a1 71 0 3072 = a0_10 from rfl, vD, vC_12] at A0
  rw [show C.doV [a0_0, a0_1, a0_2, a0_3, a0_4, a0_5, a0_6, a0_7, a0_8, a0_9, a0_10, a0_11] 0 a1 71 0 3072 0 = [a0_0, a0_1, a0_2, a0_3, a0_4, a0_5, a0_6, a0_7, a0_8, a0_9, a0_10, a0_11] from if_neg (fun h => absurd h.2 (by decide)), show toldV [a0_0, a0_1, a0_2, a0_3, a0_4, a0_5, a0_6, a0_7, a0_8, a0_9, a0_10, a0_11] 0 a1 71 0 3072 = (if okV [a0_0, a0_1, a0_2, a0_3, a0_4, a0_5, a0_6, a0_7, a0_8, a0_9, a0_10, a0_11] 0 71 0 3072 = true then a0_10 else 0) from rfl, show okV [a0_0, a0_1, a0_2, a0_3, a0_4, a0_5, a0_6, a0_7, a0_8, a0_9, a0_10, a0_11] 0 71 0 3072 = mayV [a0_0, a0_1, a0_2, a0_3, a0_4, a0_5, a0_6, a0_7, a0_8, a0_9, a0_10, a0_11] 3072 0 false from rfl, bu0.out, vD, vC_12] at B0
  rw [show C.doV [a0_0, a0_1, a0_2, a0_3, a0_4, a0_5, a0_6, a0_7, a0_8, a0_9, a0_10, a0_11] 1 a1 71 1 3072 0 = [a0_0, a0_1, a0_2, a0_3, a0_4, a0_5, a0_6, a0_7, a0_8, a0_9, a0_10, a0_11] from if_neg (fun h => absurd (show (false : Bool) = true from h.1) (by decide)), show okV [a0_0, a0_1, a0_2, a0_3, a0_4, a0_5, a0_6, a0_7, a0_8, a0_9, a0_10, a0_11] 1 71 1 3072 = false from rfl, show toldV [a0_0, a0_1, a0_2, a0_3, a0_4, a0_5, a0_6, a0_7, a0_8, a0_9, a0_10, a0_11] 1 a1 71 1 3072 = 0 from rfl, vD, vC_12] at C0
  clear bu0
  have A1 := Lib.hid (fun W => Do_c [a0_0, a0_1, a0_2, a0_3, a0_4, a0_5, a0_6, a0_7, a0_8, a0_9, a0_10, a0_11] hc 1 a1 71 3 0 0 3073 0 0 (by decide) ht (by decide) (by decide) (by decide) (by decide) W)
  have B1 := Lib.hid (fun W => Do_c [a0_0, a0_1, a0_2, a0_3, a0_4, a0_5, a0_6, a0_7, a0_8, a0_9, a0_10, a0_11] hc 0 a1 71 3 0 0 3073 0 0 (by decide) ht (by decide) (by decide) (by decide) (by decide) W)
  have C1 := Lib.hid (fun W => Do_c [a0_0, a0_1, a0_2, a0_3, a0_4, a0_5, a0_6, a0_7, a0_8, a0_9, a0_10, a0_11] hc 1 a1 71 3 1 0 3073 0 0 (by decide) ht (by decide) (by decide) (by decide) (by decide) W)
  have bu1 := Lib.hid (show mayV [a0_0, a0_1, a0_2, a0_3, a0_4, a0_5, a0_6, a0_7, a0_8, a0_9, a0_10, a0_11] 3073 0 false = (a0_3 / 2 % 2 == 1) from u1.out)
  rw [show C.doV [a0_0, a0_1, a0_2, a0_3, a0_4, a0_5, a0_6, a0_7, a0_8, a0_9, a0_10, a0_11] 1 a1 71 0 3073 0 = [a0_0, a0_1, a0_2, a0_3, a0_4, a0_5, a0_6, a0_7, a0_8, a0_9, a0_10, a0_11] from if_neg (fun h => absurd h.2 (by decide)), show okV [a0_0, a0_1, a0_2, a0_3, a0_4, a0_5, a0_6, a0_7, a0_8, a0_9, a0_10, a0_11] 1 71 0 3073 = true from rfl, show toldV [a0_0, a0_1, a0_2, a0_3, a0_4, a0_5, a0_6, a0_7, a0_8, a0_9, a0_10, a0_11] 1 a1 71 0 3073 = a1 from rfl, vD, vC_12] at A1
  rw [show C.doV [a0_0, a0_1, a0_2, a0_3, a0_4, a0_5, a0_6, a0_7, a0_8, a0_9, a0_10, a0_11] 0 a1 71 0 3073 0 = [a0_0, a0_1, a0_2, a0_3, a0_4, a0_5, a0_6, a0_7, a0_8, a0_9, a0_10, a0_11] from if_neg (fun h => absurd h.2 (by decide)), show toldV [a0_0, a0_1, a0_2, a0_3, a0_4, a0_5, a0_6, a0_7, a0_8, a0_9, a0_10, a0_11] 0 a1 71 0 3073 = (if okV [a0_0, a0_1, a0_2, a0_3, a0_4, a0_5, a0_6, a0_7, a0_8, a0_9, a0_10, a0_11] 0 71 0 3073 = true then a1 else 0) from rfl, show okV [a0_0, a0_1, a0_2, a0_3, a0_4, a0_5, a0_6, a0_7, a0_8, a0_9, a0_10, a0_11] 0 71 0 3073 = mayV [a0_0, a0_1, a0_2, a0_3, a0_4, a0_5, a0_6, a0_7, a0_8, a0_9, a0_10, a0_11] 3073 0 false from rfl, bu1.out, vD, vC_12] at B1
  rw [show C.doV [a0_0, a0_1, a0_2, a0_3, a0_4, a0_5, a0_6, a0_7, a0_8, a0_9, a0_10, a0_11] 1 a1 71 1 3073 0 = [a0_0, a0_1, a0_2, a0_3, a0_4, a0_5, a0_6, a0_7, a0_8, a0_9, a0_10, a0_11] from if_neg (fun h => absurd (show (false : Bool) = true from h.1) (by decide)), show okV [a0_0, a0_1, a0_2, a0_3, a0_4, a0_5, a0_6, a0_7, a0_8, a0_9, a0_10, a0_11] 1 71 1 3073 = false from rfl, show toldV [a0_0, a0_1, a0_2, a0_3, a0_4, a0_5, a0_6, a0_7, a0_8, a0_9, a0_10, a0_11] 1 a1 71 1 3073 = 0 from rfl, vD, vC_12] at C1
  clear bu1
  have A2 := Lib.hid (fun W => Do_c [a0_0, a0_1, a0_2, a0_3, a0_4, a0_5, a0_6, a0_7, a0_8, a0_9, a0_10, a0_11] hc 1 a1 71 3 0 0 3074 0 0 (by decide) ht (by decide) (by decide) (by decide) (by decide) W)
  have B2 := Lib.hid (fun W => Do_c [a0_0, a0_1, a0_2, a0_3, a0_4, a0_5, a0_6, a0_7, a0_8, a0_9, a0_10, a0_11] hc 0 a1 71 3 0 0 3074 0 0 (by decide) ht (by decide) (by decide) (by decide) (by decide) W)
  have C2 := Lib.hid (fun W => Do_c [a0_0, a0_1, a0_2, a0_3, a0_4, a0_5, a0_6, a0_7, a0_8, a0_9, a0_10, a0_11] hc 1 a1 71 3 1 0 3074 0 0 (by decide) ht (by decide) (by decide) (by decide) (by decide) W)
  have bu2 := Lib.hid (show mayV [a0_0, a0_1, a0_2, a0_3, a0_4, a0_5, a0_6, a0_7, a0_8, a0_9, a0_10, a0_11] 3074 0 false = (a0_3 / 4 % 2 == 1) from u2.out)
  rw [show C.doV [a0_0, a0_1, a0_2, a0_3, a0_4, a0_5, a0_6, a0_7, a0_8, a0_9, a0_10, a0_11] 1 a1 71 0 3074 0 = [a0_0, a0_1, a0_2, a0_3, a0_4, a0_5, a0_6, a0_7, a0_8, a0_9, a0_10, a0_11] from if_neg (fun h => absurd h.2 (by decide)), show okV [a0_0, a0_1, a0_2, a0_3, a0_4, a0_5, a0_6, a0_7, a0_8, a0_9, a0_10, a0_11] 1 71 0 3074 = true from rfl, show toldV [a0_0, a0_1, a0_2, a0_3, a0_4, a0_5, a0_6, a0_7, a0_8, a0_9, a0_10, a0_11] 1 a1 71 0 3074 = a0_11 from rfl, vD, vC_12] at A2
  rw [show C.doV [a0_0, a0_1, a0_2, a0_3, a0_4, a0_5, a0_6, a0_7, a0_8, a0_9, a0_10, a0_11] 0 a1 71 0 3074 0 = [a0_0, a0_1, a0_2, a0_3, a0_4, a0_5, a0_6, a0_7, a0_8, a0_9, a0_10, a0_11] from if_neg (fun h => absurd h.2 (by decide)), show toldV [a0_0, a0_1, a0_2, a0_3, a0_4, a0_5, a0_6, a0_7, a0_8, a0_9, a0_10, a0_11] 0 a1 71 0 3074 = (if okV [a0_0, a0_1, a0_2, a0_3, a0_4, a0_5, a0_6, a0_7, a0_8, a0_9, a0_10, a0_11] 0 71 0 3074 = true then a0_11 else 0) from rfl, show okV [a0_0, a0_1, a0_2, a0_3, a0_4, a0_5, a0_6, a0_7, a0_8, a0_9, a0_10, a0_11] 0 71 0 3074 = mayV [a0_0, a0_1, a0_2, a0_3, a0_4, a0_5, a0_6, a0_7, a0_8, a0_9, a0_10, a0_11] 3074 0 false from rfl, bu2.out, vD, vC_12] at B2
  rw [show C.doV [a0_0, a0_1, a0_2, a0_3, a0_4, a0_5, a0_6, a0_7, a0_8, a0_9, a0_10, a0_11] 1 a1 71 1 3074 0 = [a0_0, a0_1, a0_2, a0_3, a0_4, a0_5, a0_6, a0_7, a0_8, a0_9, a0_10, a0_11] from if_neg (fun h => absurd (show (false : Bool) = true from h.1) (by decide)), show okV [a0_0, a0_1, a0_2, a0_3, a0_4, a0_5, a0_6, a0_7, a0_8, a0_9, a0_10, a0_11] 1 71 1 3074 = false from rfl, show toldV [a0_0, a0_1, a0_2, a0_3, a0_4, a0_5, a0_6, a0_7, a0_8, a0_9, a0_10, a0_11] 1 a1 71 1 3074 = 0 from rfl, vD, vC_12] at C2
  clear bu2
  clear u0 u1 u2
  have RCa := Lib.hid (Row.fresh w 24 (lC [a0_0, a0_1, a0_2, a0_3, a0_4, a0_5, a0_6, a0_7, a0_8, a0_9, a0_10, a0_11]))
  have G0 := Lib.hid (gr_alloc (gr_refl w none) (.cells (lC [a0_0, a0_1, a0_2, a0_3, a0_4, a0_5, a0_6, a0_7, a0_8, a0_9, a0_10, a0_11]).toArray 24))
  unfold B64 at *
  clear hc
  go_enter Try.func8, Try.ntmps8
  go_wp2_with fail
  refine (shown_c _).mono ?_
  rintro e w1 ⟨rfl, hG⟩
  have RC := Row.grown RCa.out hG (by simp)
  have GW := gr_trans G0.out hG
  clear RCa G0 hG
  obtain ⟨q, hq⟩ : ∃ q, w.heap.size = q := ⟨_, rfl⟩
  rw [hq] at RC ⊢
  clear hq
  obtain ⟨k0, k1, k2, k3, k4, k5, k6, k7, k8, k9, k10, k11⟩ := cells12 RC
  have RW0 := Row.fresh w1 22 [.int .u64 a0_10, .int .u64 a1, .int .u64 a0_11]
  have RC0 := Row.alloc RC (.cells #[.int .u64 a0_10, .int .u64 a1, .int .u64 a0_11] 22)
  have GW0 := gr_alloc GW (.cells #[.int .u64 a0_10, .int .u64 a1, .int .u64 a0_11] 22)
  clear RC GW
  go_wp2_with fail
  clear k0 k1 k2 k3 k4 k5 k6 k7 k8 k9 k10 k11
  generalize w1.alloc (.cells #[.int .u64 a0_10, .int .u64 a1, .int .u64 a0_11] 22) = V at *
  generalize w1.heap.size = b6 at *
  go_loopw [7] (fun i wr => ∃ (k : Nat), k ≤ 3 ∧ i = .int .i64 k ∧ Row wr q 24 (lC [a0_0, a0_1, a0_2, a0_3, a0_4, a0_5, a0_6, a0_7, a0_8, a0_9, a0_10, a0_11]) ∧ Row wr b6 22 [.int .u64 a0_10, .int .u64 a1, .int .u64 a0_11] ∧ w.grownBy wr none) (fun i _ => 3 - (intOf i).toNat)
  case atStart => exact ⟨0, by omega, rfl, RC0, RW0, GW0⟩
  case round =>
    clear RC0 RW0 GW0
    obtain ⟨k, hk, rfl, RC, RW, GW⟩ := hrel
    have hk4 : k = 0 ∨ k = 1 ∨ k = 2 ∨ k = 3 := by omega
    rcases hk4 with rfl | rfl | rfl | rfl
    · by_cases hb : a0_3 % 2 = 1
      · rw [show (a0_3 % 2 == 1) = true by simpa using hb, if_pos rfl] at B0
        have GW0 := GW
        have RI := Row.fresh wr 35 [.int .i64 71, .int .i64 3, .int .i64 0, .int .i64 0, .int .i64 3072, .int .i64 0]
        replace RC := Row.alloc RC (.cells #[.int .i64 71, .int .i64 3, .int .i64 0, .int .i64 0, .int .i64 3072, .int .i64 0] 35)
        replace RW := Row.alloc RW (.cells #[.int .i64 71, .int .i64 3, .int .i64 0, .int .i64 0, .int .i64 3072, .int .i64 0] 35)
        replace GW := gr_alloc GW (.cells #[.int .i64 71, .int .i64 3, .int .i64 0, .int .i64 0, .int .i64 3072, .int .i64 0] 35)
        obtain ⟨k0, k1, k2, k3, k4, k5, k6, k7, k8, k9, k10, k11⟩ := cells12 RC
        go_wp2_with fail
        generalize wr.alloc (.cells #[.int .i64 71, .int .i64 3, .int .i64 0, .int .i64 0, .int .i64 3072, .int .i64 0] 35) = V1 at *
        have HB := GW0.size
        generalize wr.heap.size = b8 at *
        refine (A0.out _).mono ?_
        rintro e v1 ⟨rfl, hG⟩
        clear k0 k1 k2 k3 k4 k5 k6 k7 k8 k9 k10 k11
        replace RC := Row.alloc (Row.grown RC hG (by simp)) (.cells #[.int .u64 a0_0, .int .u64 a0_1, .int .u64 a0_2, .int .u64 a0_3, .int .u64 a0_4, .int .u64 a0_5, .int .u64 a0_6, .int .u64 a0_7, .int .u64 a0_8, .int .u64 a0_9, .int .u64 a0_10, .int .u64 a0_11] 24)
        replace RW := Row.alloc (Row.grown RW hG (by simp)) (.cells #[.int .u64 a0_0, .int .u64 a0_1, .int .u64 a0_2, .int .u64 a0_3, .int .u64 a0_4, .int .u64 a0_5, .int .u64 a0_6, .int .u64 a0_7, .int .u64 a0_8, .int .u64 a0_9, .int .u64 a0_10, .int .u64 a0_11] 24)
        replace RI := Row.alloc (Row.grown RI hG (by simp)) (.cells #[.int .u64 a0_0, .int .u64 a0_1, .int .u64 a0_2, .int .u64 a0_3, .int .u64 a0_4, .int .u64 a0_5, .int .u64 a0_6, .int .u64 a0_7, .int .u64 a0_8, .int .u64 a0_9, .int .u64 a0_10, .int .u64 a0_11] 24)
        replace GW := gr_alloc (gr_trans GW hG) (.cells #[.int .u64 a0_0, .int .u64 a0_1, .int .u64 a0_2, .int .u64 a0_3, .int .u64 a0_4, .int .u64 a0_5, .int .u64 a0_6, .int .u64 a0_7, .int .u64 a0_8, .int .u64 a0_9, .int .u64 a0_10, .int .u64 a0_11] 24)
        clear hG
        obtain ⟨k0, k1, k2, k3, k4, k5, k6, k7, k8, k9, k10, k11⟩ := cells12 RC
        obtain ⟨i0, i1, i2, i3, i4, i5⟩ := cells6 RI
        go_wp2_with fail
        generalize v1.alloc (.cells #[.int .u64 a0_0, .int .u64 a0_1, .int .u64 a0_2, .int .u64 a0_3, .int .u64 a0_4, .int .u64 a0_5, .int .u64 a0_6, .int .u64 a0_7, .int .u64 a0_8, .int .u64 a0_9, .int .u64 a0_10, .int .u64 a0_11] 24) = V2 at *
        refine (B0.out _).mono ?_
        rintro e v2 ⟨rfl, hG⟩
        clear k0 k1 k2 k3 k4 k5 k6 k7 k8 k9 k10 k11
        clear i0 i1 i2 i3 i4 i5
        replace RC := Row.grown RC hG (by simp)
        replace RW := Row.grown RW hG (by simp)
        replace RI := Row.grown RI hG (by simp)
        replace GW := gr_trans GW hG
        clear hG
        obtain ⟨k0, k1, k2, k3, k4, k5, k6, k7, k8, k9, k10, k11⟩ := cells12 RC
        obtain ⟨i0, i1, i2, i3, i4, i5⟩ := cells6 RI
        have fi := RI.free
        have lI := RI.lt
        have lC' := RC.lt
        have nc : q ≠ b8 := Row.apart RC RI (by decide)
        have nw : b6 ≠ b8 := Row.apart RW RI (by decide)
        go_wp2_with fail
        refine (C0.out _).mono ?_
        rintro e v3 ⟨rfl, hG⟩
        clear k0 k1 k2 k3 k4 k5 k6 k7 k8 k9 k10 k11
        clear i0 i1 i2 i3 i4 i5
        replace RC := Row.grown (Row.alloc (Row.other RC nc _) _) hG (by simp)
        replace RW := Row.grown (Row.alloc (Row.other RW nw _) _) hG (by simp)
        replace GW := gr_trans (gr_alloc (gr_row (gr_set (gr_none GW (some b8)) _) HB) _) hG
        clear hG fi lI lC' nc nw RI
        have k3' := (cells12 RC).2.2.2.1
        obtain ⟨r0, r1, r2⟩ := cells3 RW
        have lc := RC.lt
        have lw := RW.lt
        go_wp2_with fail
        go_roundw
        case rel => exact ⟨1, by omega, by go_num, Row.alloc RC _, Row.alloc RW _, gr_alloc GW _⟩
        case measure => simp [intOf]
      · have hb0 : (a0_3 % 2 == 1) = false := by simpa using hb
        rw [hb0, if_neg (by simp)] at B0
        have GW0 := GW
        have RI := Row.fresh wr 35 [.int .i64 71, .int .i64 3, .int .i64 0, .int .i64 0, .int .i64 3072, .int .i64 0]
        replace RC := Row.alloc RC (.cells #[.int .i64 71, .int .i64 3, .int .i64 0, .int .i64 0, .int .i64 3072, .int .i64 0] 35)
        replace RW := Row.alloc RW (.cells #[.int .i64 71, .int .i64 3, .int .i64 0, .int .i64 0, .int .i64 3072, .int .i64 0] 35)
        replace GW := gr_alloc GW (.cells #[.int .i64 71, .int .i64 3, .int .i64 0, .int .i64 0, .int .i64 3072, .int .i64 0] 35)
        obtain ⟨k0, k1, k2, k3, k4, k5, k6, k7, k8, k9, k10, k11⟩ := cells12 RC
        go_wp2_with fail
        generalize wr.alloc (.cells #[.int .i64 71, .int .i64 3, .int .i64 0, .int .i64 0, .int .i64 3072, .int .i64 0] 35) = V1 at *
        have HB := GW0.size
        generalize wr.heap.size = b8 at *
        refine (A0.out _).mono ?_
        rintro e v1 ⟨rfl, hG⟩
        clear k0 k1 k2 k3 k4 k5 k6 k7 k8 k9 k10 k11
        replace RC := Row.alloc (Row.grown RC hG (by simp)) (.cells #[.int .u64 a0_0, .int .u64 a0_1, .int .u64 a0_2, .int .u64 a0_3, .int .u64 a0_4, .int .u64 a0_5, .int .u64 a0_6, .int .u64 a0_7, .int .u64 a0_8, .int .u64 a0_9, .int .u64 a0_10, .int .u64 a0_11] 24)
        replace RW := Row.alloc (Row.grown RW hG (by simp)) (.cells #[.int .u64 a0_0, .int .u64 a0_1, .int .u64 a0_2, .int .u64 a0_3, .int .u64 a0_4, .int .u64 a0_5, .int .u64 a0_6, .int .u64 a0_7, .int .u64 a0_8, .int .u64 a0_9, .int .u64 a0_10, .int .u64 a0_11] 24)
        replace RI := Row.alloc (Row.grown RI hG (by simp)) (.cells #[.int .u64 a0_0, .int .u64 a0_1, .int .u64 a0_2, .int .u64 a0_3, .int .u64 a0_4, .int .u64 a0_5, .int .u64 a0_6, .int .u64 a0_7, .int .u64 a0_8, .int .u64 a0_9, .int .u64 a0_10, .int .u64 a0_11] 24)
        replace GW := gr_alloc (gr_trans GW hG) (.cells #[.int .u64 a0_0, .int .u64 a0_1, .int .u64 a0_2, .int .u64 a0_3, .int .u64 a0_4, .int .u64 a0_5, .int .u64 a0_6, .int .u64 a0_7, .int .u64 a0_8, .int .u64 a0_9, .int .u64 a0_10, .int .u64 a0_11] 24)
        clear hG
        obtain ⟨k0, k1, k2, k3, k4, k5, k6, k7, k8, k9, k10, k11⟩ := cells12 RC
        obtain ⟨i0, i1, i2, i3, i4, i5⟩ := cells6 RI
        go_wp2_with fail
        generalize v1.alloc (.cells #[.int .u64 a0_0, .int .u64 a0_1, .int .u64 a0_2, .int .u64 a0_3, .int .u64 a0_4, .int .u64 a0_5, .int .u64 a0_6, .int .u64 a0_7, .int .u64 a0_8, .int .u64 a0_9, .int .u64 a0_10, .int .u64 a0_11] 24) = V2 at *
        refine (B0.out _).mono ?_
        rintro e v2 ⟨rfl, hG⟩
        clear k0 k1 k2 k3 k4 k5 k6 k7 k8 k9 k10 k11
        clear i0 i1 i2 i3 i4 i5
        replace RC := Row.grown RC hG (by simp)
        replace RW := Row.grown RW hG (by simp)
        replace RI := Row.grown RI hG (by simp)
        replace GW := gr_trans GW hG
        clear hG
        obtain ⟨k0, k1, k2, k3, k4, k5, k6, k7, k8, k9, k10, k11⟩ := cells12 RC
        obtain ⟨i0, i1, i2, i3, i4, i5⟩ := cells6 RI
        have fi := RI.free
        have lI := RI.lt
        have lC' := RC.lt
        have nc : q ≠ b8 := Row.apart RC RI (by decide)
        have nw : b6 ≠ b8 := Row.apart RW RI (by decide)
        go_wp2_with fail
        refine (C0.out _).mono ?_
        rintro e v3 ⟨rfl, hG⟩
        clear k0 k1 k2 k3 k4 k5 k6 k7 k8 k9 k10 k11
        clear i0 i1 i2 i3 i4 i5
        replace RC := Row.grown (Row.alloc (Row.other RC nc _) _) hG (by simp)
        replace RW := Row.grown (Row.alloc (Row.other RW nw _) _) hG (by simp)
        replace GW := gr_trans (gr_alloc (gr_row (gr_set (gr_none GW (some b8)) _) HB) _) hG
        clear hG fi lI lC' nc nw RI
        have k3' := (cells12 RC).2.2.2.1
        obtain ⟨r0, r1, r2⟩ := cells3 RW
        have lc := RC.lt
        have lw := RW.lt
        go_wp2_with fail
        go_roundw
        case rel => exact ⟨1, by omega, by go_num, Row.alloc RC _, Row.alloc RW _, gr_alloc GW _⟩
        case measure => simp [intOf]
    · by_cases hb : a0_3 / 2 % 2 = 1
      · rw [show (a0_3 / 2 % 2 == 1) = true by simpa using hb, if_pos rfl] at B1
        have GW0 := GW
        have RI := Row.fresh wr 35 [.int .i64 71, .int .i64 3, .int .i64 0, .int .i64 0, .int .i64 3073, .int .i64 0]
        replace RC := Row.alloc RC (.cells #[.int .i64 71, .int .i64 3, .int .i64 0, .int .i64 0, .int .i64 3073, .int .i64 0] 35)
        replace RW := Row.alloc RW (.cells #[.int .i64 71, .int .i64 3, .int .i64 0, .int .i64 0, .int .i64 3073, .int .i64 0] 35)
        replace GW := gr_alloc GW (.cells #[.int .i64 71, .int .i64 3, .int .i64 0, .int .i64 0, .int .i64 3073, .int .i64 0] 35)
        obtain ⟨k0, k1, k2, k3, k4, k5, k6, k7, k8, k9, k10, k11⟩ := cells12 RC
        go_wp2_with fail
        generalize wr.alloc (.cells #[.int .i64 71, .int .i64 3, .int .i64 0, .int .i64 0, .int .i64 3073, .int .i64 0] 35) = V1 at *
        have HB := GW0.size
        generalize wr.heap.size = b8 at *
        refine (A1.out _).mono ?_
        rintro e v1 ⟨rfl, hG⟩
        clear k0 k1 k2 k3 k4 k5 k6 k7 k8 k9 k10 k11
        replace RC := Row.alloc (Row.grown RC hG (by simp)) (.cells #[.int .u64 a0_0, .int .u64 a0_1, .int .u64 a0_2, .int .u64 a0_3, .int .u64 a0_4, .int .u64 a0_5, .int .u64 a0_6, .int .u64 a0_7, .int .u64 a0_8, .int .u64 a0_9, .int .u64 a0_10, .int .u64 a0_11] 24)
        replace RW := Row.alloc (Row.grown RW hG (by simp)) (.cells #[.int .u64 a0_0, .int .u64 a0_1, .int .u64 a0_2, .int .u64 a0_3, .int .u64 a0_4, .int .u64 a0_5, .int .u64 a0_6, .int .u64 a0_7, .int .u64 a0_8, .int .u64 a0_9, .int .u64 a0_10, .int .u64 a0_11] 24)
        replace RI := Row.alloc (Row.grown RI hG (by simp)) (.cells #[.int .u64 a0_0, .int .u64 a0_1, .int .u64 a0_2, .int .u64 a0_3, .int .u64 a0_4, .int .u64 a0_5, .int .u64 a0_6, .int .u64 a0_7, .int .u64 a0_8, .int .u64 a0_9, .int .u64 a0_10, .int .u64 a0_11] 24)
        replace GW := gr_alloc (gr_trans GW hG) (.cells #[.int .u64 a0_0, .int .u64 a0_1, .int .u64 a0_2, .int .u64 a0_3, .int .u64 a0_4, .int .u64 a0_5, .int .u64 a0_6, .int .u64 a0_7, .int .u64 a0_8, .int .u64 a0_9, .int .u64 a0_10, .int .u64 a0_11] 24)
        clear hG
        obtain ⟨k0, k1, k2, k3, k4, k5, k6, k7, k8, k9, k10, k11⟩ := cells12 RC
        obtain ⟨i0, i1, i2, i3, i4, i5⟩ := cells6 RI
        go_wp2_with fail
        generalize v1.alloc (.cells #[.int .u64 a0_0, .int .u64 a0_1, .int .u64 a0_2, .int .u64 a0_3, .int .u64 a0_4, .int .u64 a0_5, .int .u64 a0_6, .int .u64 a0_7, .int .u64 a0_8, .int .u64 a0_9, .int .u64 a0_10, .int .u64 a0_11] 24) = V2 at *
        refine (B1.out _).mono ?_
        rintro e v2 ⟨rfl, hG⟩
        clear k0 k1 k2 k3 k4 k5 k6 k7 k8 k9 k10 k11
        clear i0 i1 i2 i3 i4 i5
        replace RC := Row.grown RC hG (by simp)
        replace RW := Row.grown RW hG (by simp)
        replace RI := Row.grown RI hG (by simp)
        replace GW := gr_trans GW hG
        clear hG
        obtain ⟨k0, k1, k2, k3, k4, k5, k6, k7, k8, k9, k10, k11⟩ := cells12 RC
        obtain ⟨i0, i1, i2, i3, i4, i5⟩ := cells6 RI
        have fi := RI.free
        have lI := RI.lt
        have lC' := RC.lt
        have nc : q ≠ b8 := Row.apart RC RI (by decide)
        have nw : b6 ≠ b8 := Row.apart RW RI (by decide)
        go_wp2_with fail
        refine (C1.out _).mono ?_
        rintro e v3 ⟨rfl, hG⟩
        clear k0 k1 k2 k3 k4 k5 k6 k7 k8 k9 k10 k11
        clear i0 i1 i2 i3 i4 i5
        replace RC := Row.grown (Row.alloc (Row.other RC nc _) _) hG (by simp)
        replace RW := Row.grown (Row.alloc (Row.other RW nw _) _) hG (by simp)
        replace GW := gr_trans (gr_alloc (gr_row (gr_set (gr_none GW (some b8)) _) HB) _) hG
        clear hG fi lI lC' nc nw RI
        have k3' := (cells12 RC).2.2.2.1
        obtain ⟨r0, r1, r2⟩ := cells3 RW
        have lc := RC.lt
        have lw := RW.lt
        go_wp2_with fail
        go_roundw
        case rel => exact ⟨2, by omega, by go_num, Row.alloc RC _, Row.alloc RW _, gr_alloc GW _⟩
        case measure => simp [intOf]
      · have hb0 : (a0_3 / 2 % 2 == 1) = false := by simpa using hb
        rw [hb0, if_neg (by simp)] at B1
        have GW0 := GW
        have RI := Row.fresh wr 35 [.int .i64 71, .int .i64 3, .int .i64 0, .int .i64 0, .int .i64 3073, .int .i64 0]
        replace RC := Row.alloc RC (.cells #[.int .i64 71, .int .i64 3, .int .i64 0, .int .i64 0, .int .i64 3073, .int .i64 0] 35)
        replace RW := Row.alloc RW (.cells #[.int .i64 71, .int .i64 3, .int .i64 0, .int .i64 0, .int .i64 3073, .int .i64 0] 35)
        replace GW := gr_alloc GW (.cells #[.int .i64 71, .int .i64 3, .int .i64 0, .int .i64 0, .int .i64 3073, .int .i64 0] 35)
        obtain ⟨k0, k1, k2, k3, k4, k5, k6, k7, k8, k9, k10, k11⟩ := cells12 RC
        go_wp2_with fail
        generalize wr.alloc (.cells #[.int .i64 71, .int .i64 3, .int .i64 0, .int .i64 0, .int .i64 3073, .int .i64 0] 35) = V1 at *
        have HB := GW0.size
        generalize wr.heap.size = b8 at *
        refine (A1.out _).mono ?_
        rintro e v1 ⟨rfl, hG⟩
        clear k0 k1 k2 k3 k4 k5 k6 k7 k8 k9 k10 k11
        replace RC := Row.alloc (Row.grown RC hG (by simp)) (.cells #[.int .u64 a0_0, .int .u64 a0_1, .int .u64 a0_2, .int .u64 a0_3, .int .u64 a0_4, .int .u64 a0_5, .int .u64 a0_6, .int .u64 a0_7, .int .u64 a0_8, .int .u64 a0_9, .int .u64 a0_10, .int .u64 a0_11] 24)
        replace RW := Row.alloc (Row.grown RW hG (by simp)) (.cells #[.int .u64 a0_0, .int .u64 a0_1, .int .u64 a0_2, .int .u64 a0_3, .int .u64 a0_4, .int .u64 a0_5, .int .u64 a0_6, .int .u64 a0_7, .int .u64 a0_8, .int .u64 a0_9, .int .u64 a0_10, .int .u64 a0_11] 24)
        replace RI := Row.alloc (Row.grown RI hG (by simp)) (.cells #[.int .u64 a0_0, .int .u64 a0_1, .int .u64 a0_2, .int .u64 a0_3, .int .u64 a0_4, .int .u64 a0_5, .int .u64 a0_6, .int .u64 a0_7, .int .u64 a0_8, .int .u64 a0_9, .int .u64 a0_10, .int .u64 a0_11] 24)
        replace GW := gr_alloc (gr_trans GW hG) (.cells #[.int .u64 a0_0, .int .u64 a0_1, .int .u64 a0_2, .int .u64 a0_3, .int .u64 a0_4, .int .u64 a0_5, .int .u64 a0_6, .int .u64 a0_7, .int .u64 a0_8, .int .u64 a0_9, .int .u64 a0_10, .int .u64 a0_11] 24)
        clear hG
        obtain ⟨k0, k1, k2, k3, k4, k5, k6, k7, k8, k9, k10, k11⟩ := cells12 RC
        obtain ⟨i0, i1, i2, i3, i4, i5⟩ := cells6 RI
        go_wp2_with fail
        generalize v1.alloc (.cells #[.int .u64 a0_0, .int .u64 a0_1, .int .u64 a0_2, .int .u64 a0_3, .int .u64 a0_4, .int .u64 a0_5, .int .u64 a0_6, .int .u64 a0_7, .int .u64 a0_8, .int .u64 a0_9, .int .u64 a0_10, .int .u64 a0_11] 24) = V2 at *
        refine (B1.out _).mono ?_
        rintro e v2 ⟨rfl, hG⟩
        clear k0 k1 k2 k3 k4 k5 k6 k7 k8 k9 k10 k11
        clear i0 i1 i2 i3 i4 i5
        replace RC := Row.grown RC hG (by simp)
        replace RW := Row.grown RW hG (by simp)
        replace RI := Row.grown RI hG (by simp)
        replace GW := gr_trans GW hG
        clear hG
        obtain ⟨k0, k1, k2, k3, k4, k5, k6, k7, k8, k9, k10, k11⟩ := cells12 RC
        obtain ⟨i0, i1, i2, i3, i4, i5⟩ := cells6 RI
        have fi := RI.free
        have lI := RI.lt
        have lC' := RC.lt
        have nc : q ≠ b8 := Row.apart RC RI (by decide)
        have nw : b6 ≠ b8 := Row.apart RW RI (by decide)
        go_wp2_with fail
        refine (C1.out _).mono ?_
        rintro e v3 ⟨rfl, hG⟩
        clear k0 k1 k2 k3 k4 k5 k6 k7 k8 k9 k10 k11
        clear i0 i1 i2 i3 i4 i5
        replace RC := Row.grown (Row.alloc (Row.other RC nc _) _) hG (by simp)
        replace RW := Row.grown (Row.alloc (Row.other RW nw _) _) hG (by simp)
        replace GW := gr_trans (gr_alloc (gr_row (gr_set (gr_none GW (some b8)) _) HB) _) hG
        clear hG fi lI lC' nc nw RI
        have k3' := (cells12 RC).2.2.2.1
        obtain ⟨r0, r1, r2⟩ := cells3 RW
        have lc := RC.lt
        have lw := RW.lt
        go_wp2_with fail
        go_roundw
        case rel => exact ⟨2, by omega, by go_num, Row.alloc RC _, Row.alloc RW _, gr_alloc GW _⟩
        case measure => simp [intOf]
    · by_cases hb : a0_3 / 4 % 2 = 1
      · rw [show (a0_3 / 4 % 2 == 1) = true by simpa using hb, if_pos rfl] at B2
        have GW0 := GW
        have RI := Row.fresh wr 35 [.int .i64 71, .int .i64 3, .int .i64 0, .int .i64 0, .int .i64 3074, .int .i64 0]
        replace RC := Row.alloc RC (.cells #[.int .i64 71, .int .i64 3, .int .i64 0, .int .i64 0, .int .i64 3074, .int .i64 0] 35)
        replace RW := Row.alloc RW (.cells #[.int .i64 71, .int .i64 3, .int .i64 0, .int .i64 0, .int .i64 3074, .int .i64 0] 35)
        replace GW := gr_alloc GW (.cells #[.int .i64 71, .int .i64 3, .int .i64 0, .int .i64 0, .int .i64 3074, .int .i64 0] 35)
        obtain ⟨k0, k1, k2, k3, k4, k5, k6, k7, k8, k9, k10, k11⟩ := cells12 RC
        go_wp2_with fail
        generalize wr.alloc (.cells #[.int .i64 71, .int .i64 3, .int .i64 0, .int .i64 0, .int .i64 3074, .int .i64 0] 35) = V1 at *
        have HB := GW0.size
        generalize wr.heap.size = b8 at *
        refine (A2.out _).mono ?_
        rintro e v1 ⟨rfl, hG⟩
        clear k0 k1 k2 k3 k4 k5 k6 k7 k8 k9 k10 k11
        replace RC := Row.alloc (Row.grown RC hG (by simp)) (.cells #[.int .u64 a0_0, .int .u64 a0_1, .int .u64 a0_2, .int .u64 a0_3, .int .u64 a0_4, .int .u64 a0_5, .int .u64 a0_6, .int .u64 a0_7, .int .u64 a0_8, .int .u64 a0_9, .int .u64 a0_10, .int .u64 a0_11] 24)
        replace RW := Row.alloc (Row.grown RW hG (by simp)) (.cells #[.int .u64 a0_0, .int .u64 a0_1, .int .u64 a0_2, .int .u64 a0_3, .int .u64 a0_4, .int .u64 a0_5, .int .u64 a0_6, .int .u64 a0_7, .int .u64 a0_8, .int .u64 a0_9, .int .u64 a0_10, .int .u64 a0_11] 24)
        replace RI := Row.alloc (Row.grown RI hG (by simp)) (.cells #[.int .u64 a0_0, .int .u64 a0_1, .int .u64 a0_2, .int .u64 a0_3, .int .u64 a0_4, .int .u64 a0_5, .int .u64 a0_6, .int .u64 a0_7, .int .u64 a0_8, .int .u64 a0_9, .int .u64 a0_10, .int .u64 a0_11] 24)
        replace GW := gr_alloc (gr_trans GW hG) (.cells #[.int .u64 a0_0, .int .u64 a0_1, .int .u64 a0_2, .int .u64 a0_3, .int .u64 a0_4, .int .u64 a0_5, .int .u64 a0_6, .int .u64 a0_7, .int .u64 a0_8, .int .u64 a0_9, .int .u64 a0_10, .int .u64 a0_11] 24)
        clear hG
        obtain ⟨k0, k1, k2, k3, k4, k5, k6, k7, k8, k9, k10, k11⟩ := cells12 RC
        obtain ⟨i0, i1, i2, i3, i4, i5⟩ := cells6 RI
        go_wp2_with fail
        generalize v1.alloc (.cells #[.int .u64 a0_0, .int .u64 a0_1, .int .u64 a0_2, .int .u64 a0_3, .int .u64 a0_4, .int .u64 a0_5, .int .u64 a0_6, .int .u64 a0_7, .int .u64 a0_8, .int .u64 a0_9, .int .u64 a0_10, .int .u64 a0_11] 24) = V2 at *
        refine (B2.out _).mono ?_
        rintro e v2 ⟨rfl, hG⟩
        clear k0 k1 k2 k3 k4 k5 k6 k7 k8 k9 k10 k11
        clear i0 i1 i2 i3 i4 i5
        replace RC := Row.grown RC hG (by simp)
        replace RW := Row.grown RW hG (by simp)
        replace RI := Row.grown RI hG (by simp)
        replace GW := gr_trans GW hG
        clear hG
        obtain ⟨k0, k1, k2, k3, k4, k5, k6, k7, k8, k9, k10, k11⟩ := cells12 RC
        obtain ⟨i0, i1, i2, i3, i4, i5⟩ := cells6 RI
        have fi := RI.free
        have lI := RI.lt
        have lC' := RC.lt
        have nc : q ≠ b8 := Row.apart RC RI (by decide)
        have nw : b6 ≠ b8 := Row.apart RW RI (by decide)
        go_wp2_with fail
        refine (C2.out _).mono ?_
        rintro e v3 ⟨rfl, hG⟩
        clear k0 k1 k2 k3 k4 k5 k6 k7 k8 k9 k10 k11
        clear i0 i1 i2 i3 i4 i5
        replace RC := Row.grown (Row.alloc (Row.other RC nc _) _) hG (by simp)
        replace RW := Row.grown (Row.alloc (Row.other RW nw _) _) hG (by simp)
        replace GW := gr_trans (gr_alloc (gr_row (gr_set (gr_none GW (some b8)) _) HB) _) hG
        clear hG fi lI lC' nc nw RI
        have k3' := (cells12 RC).2.2.2.1
        obtain ⟨r0, r1, r2⟩ := cells3 RW
        have lc := RC.lt
        have lw := RW.lt
        go_wp2_with fail
        go_roundw
        case rel => exact ⟨3, by omega, by go_num, Row.alloc RC _, Row.alloc RW _, gr_alloc GW _⟩
        case measure => simp [intOf]
      · have hb0 : (a0_3 / 4 % 2 == 1) = false := by simpa using hb
        rw [hb0, if_neg (by simp)] at B2
        have GW0 := GW
        have RI := Row.fresh wr 35 [.int .i64 71, .int .i64 3, .int .i64 0, .int .i64 0, .int .i64 3074, .int .i64 0]
        replace RC := Row.alloc RC (.cells #[.int .i64 71, .int .i64 3, .int .i64 0, .int .i64 0, .int .i64 3074, .int .i64 0] 35)
        replace RW := Row.alloc RW (.cells #[.int .i64 71, .int .i64 3, .int .i64 0, .int .i64 0, .int .i64 3074, .int .i64 0] 35)
        replace GW := gr_alloc GW (.cells #[.int .i64 71, .int .i64 3, .int .i64 0, .int .i64 0, .int .i64 3074, .int .i64 0] 35)
        obtain ⟨k0, k1, k2, k3, k4, k5, k6, k7, k8, k9, k10, k11⟩ := cells12 RC
        go_wp2_with fail
        generalize wr.alloc (.cells #[.int .i64 71, .int .i64 3, .int .i64 0, .int .i64 0, .int .i64 3074, .int .i64 0] 35) = V1 at *
        have HB := GW0.size
        generalize wr.heap.size = b8 at *
        refine (A2.out _).mono ?_
        rintro e v1 ⟨rfl, hG⟩
        clear k0 k1 k2 k3 k4 k5 k6 k7 k8 k9 k10 k11
        replace RC := Row.alloc (Row.grown RC hG (by simp)) (.cells #[.int .u64 a0_0, .int .u64 a0_1, .int .u64 a0_2, .int .u64 a0_3, .int .u64 a0_4, .int .u64 a0_5, .int .u64 a0_6, .int .u64 a0_7, .int .u64 a0_8, .int .u64 a0_9, .int .u64 a0_10, .int .u64 a0_11] 24)
        replace RW := Row.alloc (Row.grown RW hG (by simp)) (.cells #[.int .u64 a0_0, .int .u64 a0_1, .int .u64 a0_2, .int .u64 a0_3, .int .u64 a0_4, .int .u64 a0_5, .int .u64 a0_6, .int .u64 a0_7, .int .u64 a0_8, .int .u64 a0_9, .int .u64 a0_10, .int .u64 a0_11] 24)
        replace RI := Row.alloc (Row.grown RI hG (by simp)) (.cells #[.int .u64 a0_0, .int .u64 a0_1, .int .u64 a0_2, .int .u64 a0_3, .int .u64 a0_4, .int .u64 a0_5, .int .u64 a0_6, .int .u64 a0_7, .int .u64 a0_8, .int .u64 a0_9, .int .u64 a0_10, .int .u64 a0_11] 24)
        replace GW := gr_alloc (gr_trans GW hG) (.cells #[.int .u64 a0_0, .int .u64 a0_1, .int .u64 a0_2, .int .u64 a0_3, .int .u64 a0_4, .int .u64 a0_5, .int .u64 a0_6, .int .u64 a0_7, .int .u64 a0_8, .int .u64 a0_9, .int .u64 a0_10, .int .u64 a0_11] 24)
        clear hG
        obtain ⟨k0, k1, k2, k3, k4, k5, k6, k7, k8, k9, k10, k11⟩ := cells12 RC
        obtain ⟨i0, i1, i2, i3, i4, i5⟩ := cells6 RI
        go_wp2_with fail
        generalize v1.alloc (.cells #[.int .u64 a0_0, .int .u64 a0_1, .int .u64 a0_2, .int .u64 a0_3, .int .u64 a0_4, .int .u64 a0_5, .int .u64 a0_6, .int .u64 a0_7, .int .u64 a0_8, .int .u64 a0_9, .int .u64 a0_10, .int .u64 a0_11] 24) = V2 at *
        refine (B2.out _).mono ?_
        rintro e v2 ⟨rfl, hG⟩
        clear k0 k1 k2 k3 k4 k5 k6 k7 k8 k9 k10 k11
        clear i0 i1 i2 i3 i4 i5
        replace RC := Row.grown RC hG (by simp)
        replace RW := Row.grown RW hG (by simp)
        replace RI := Row.grown RI hG (by simp)
        replace GW := gr_trans GW hG
        clear hG
        obtain ⟨k0, k1, k2, k3, k4, k5, k6, k7, k8, k9, k10, k11⟩ := cells12 RC
        obtain ⟨i0, i1, i2, i3, i4, i5⟩ := cells6 RI
        have fi := RI.free
        have lI := RI.lt
        have lC' := RC.lt
        have nc : q ≠ b8 := Row.apart RC RI (by decide)
        have nw : b6 ≠ b8 := Row.apart RW RI (by decide)
        go_wp2_with fail
        refine (C2.out _).mono ?_
        rintro e v3 ⟨rfl, hG⟩
        clear k0 k1 k2 k3 k4 k5 k6 k7 k8 k9 k10 k11
        clear i0 i1 i2 i3 i4 i5
        replace RC := Row.grown (Row.alloc (Row.other RC nc _) _) hG (by simp)
        replace RW := Row.grown (Row.alloc (Row.other RW nw _) _) hG (by simp)
        replace GW := gr_trans (gr_alloc (gr_row (gr_set (gr_none GW (some b8)) _) HB) _) hG
        clear hG fi lI lC' nc nw RI
        have k3' := (cells12 RC).2.2.2.1
        obtain ⟨r0, r1, r2⟩ := cells3 RW
        have lc := RC.lt
        have lw := RW.lt
        go_wp2_with fail
        go_roundw
        case rel => exact ⟨3, by omega, by go_num, Row.alloc RC _, Row.alloc RW _, gr_alloc GW _⟩
        case measure => simp [intOf]
    · go_wp2_with fail
      go_ret
      exact ⟨rfl, gr_below GW⟩

theorem own : ownKnob Try.prog.godebug = none := by kernel_rfl
theorem laidOut : laidOutB Try.prog = true := by kernel_rfl

set_option maxRecDepth 100000 in
theorem lifted (os : Os) (started : os.Started) (H : Type) (enc : TypeId × Value → H) :
    ReturnsInHanded {} Try.checked os 8 .any (Rows.csrCountersSpec.pre6 enc Try.prog Try.f8 Rows.csrCountersRow.domain false) (Rows.csrCountersSpec.post enc Try.prog Try.f8 false true false false) := by
  refine returnsInHanded_of_change (C := Try.checked) own started (by kernel_rfl) Try.func8
    (ChangeSpec.witness6 (enc := enc) (C := Try.checked) false ⟨#[], #[.agg #[.int .u64 0, .int .u64 0, .int .u64 0, .int .u64 0, .int .u64 0, .int .u64 0, .int .u64 0, .int .u64 0, .int .u64 0, .int .u64 0, .int .u64 0, .int .u64 0], .int .u64 0], []⟩ 8 (by kernel_rfl) (by kernel_rfl) (by kernel_rfl) (by kernel_rfl)) ?_
  intro W base args ds gs before hval0 hW hcnd _
  have hval : ∀ (j : Nat) t v, Try.f8.params[j]? = some t → args[j]? = some v → Value.okWide Try.prog W .any base t v := hval0
  have hW' := hW
  obtain ⟨p, q, hA0, hV, rfl, hfz, hnd⟩ := hW
  have hA : DataW.TrodAll enc Try.prog W 0 (fun _ => true) true Try.f8.params.toList args.toList ds p := hA0
  rw [Try.params8] at hA hval
  obtain ⟨v0, vs0, d0, ds0, p0, q0, hargs, rfl, rfl, h0, r0⟩ := trodAll_cons hA
  obtain ⟨v1, vs1, d1, ds1, p1, q1, rfl, rfl, rfl, h1, r1⟩ := trodAll_cons r0
  obtain ⟨rfl, rfl, rfl⟩ := trodAll_nil r1
  obtain rfl : args = #[v0, v1] := by cases args; simp_all
  obtain ⟨rfl, rfl⟩ := trodVars_none hV
  clear hA0 hval0 hA
  have k0 := h0
  have lt0 : ∀ x ∈ p0, x.block < W.heap.size := by obtain ⟨m, hm⟩ := k0; exact DataW.trod_lt m _ _ _ hm
  obtain ⟨xs0, rfl, l0, m0, f0⟩ := Op.open_struct Try.underlying24 (hval 0 24 v0 rfl rfl) h0
  rw [show Try.prog.cellsOf 24 = 12 from by kernel_rfl] at l0
  obtain _ | ⟨c0_0, xs0⟩ := xs0
  · simp at l0
  obtain _ | ⟨c0_1, xs0⟩ := xs0
  · simp at l0
  obtain _ | ⟨c0_2, xs0⟩ := xs0
  · simp at l0
  obtain _ | ⟨c0_3, xs0⟩ := xs0
  · simp at l0
  obtain _ | ⟨c0_4, xs0⟩ := xs0
  · simp at l0
  obtain _ | ⟨c0_5, xs0⟩ := xs0
  · simp at l0
  obtain _ | ⟨c0_6, xs0⟩ := xs0
  · simp at l0
  obtain _ | ⟨c0_7, xs0⟩ := xs0
  · simp at l0
  obtain _ | ⟨c0_8, xs0⟩ := xs0
  · simp at l0
  obtain _ | ⟨c0_9, xs0⟩ := xs0
  · simp at l0
  obtain _ | ⟨c0_10, xs0⟩ := xs0
  · simp at l0
  obtain _ | ⟨c0_11, xs0⟩ := xs0
  · simp at l0
  obtain _ | ⟨_, _⟩ := xs0
  rotate_left
  · simp at l0
  clear h0
  obtain ⟨y0_0, g0_0⟩ := f0 0 _ rfl
  replace g0_0 : DataW.trod enc Try.prog W 0 (fun _ => true) true m0 22 [c0_0] = some y0_0 := g0_0
  obtain ⟨a0_0, e0_0, _, w0_0⟩ := DataW.trod_int Try.underlying22 g0_0
  simp at e0_0; subst e0_0
  obtain ⟨y0_1, g0_1⟩ := f0 1 _ rfl
  replace g0_1 : DataW.trod enc Try.prog W 0 (fun _ => true) true m0 22 [c0_1] = some y0_1 := g0_1
  obtain ⟨a0_1, e0_1, _, w0_1⟩ := DataW.trod_int Try.underlying22 g0_1
  simp at e0_1; subst e0_1
  obtain ⟨y0_2, g0_2⟩ := f0 2 _ rfl
  replace g0_2 : DataW.trod enc Try.prog W 0 (fun _ => true) true m0 22 [c0_2] = some y0_2 := g0_2
  obtain ⟨a0_2, e0_2, _, w0_2⟩ := DataW.trod_int Try.underlying22 g0_2
  simp at e0_2; subst e0_2
  obtain ⟨y0_3, g0_3⟩ := f0 3 _ rfl
  replace g0_3 : DataW.trod enc Try.prog W 0 (fun _ => true) true m0 22 [c0_3] = some y0_3 := g0_3
  obtain ⟨a0_3, e0_3, _, w0_3⟩ := DataW.trod_int Try.underlying22 g0_3
  simp at e0_3; subst e0_3
  obtain ⟨y0_4, g0_4⟩ := f0 4 _ rfl
  replace g0_4 : DataW.trod enc Try.prog W 0 (fun _ => true) true m0 22 [c0_4] = some y0_4 := g0_4
  obtain ⟨a0_4, e0_4, _, w0_4⟩ := DataW.trod_int Try.underlying22 g0_4
  simp at e0_4; subst e0_4
  obtain ⟨y0_5, g0_5⟩ := f0 5 _ rfl
  replace g0_5 : DataW.trod enc Try.prog W 0 (fun _ => true) true m0 22 [c0_5] = some y0_5 := g0_5
  obtain ⟨a0_5, e0_5, _, w0_5⟩ := DataW.trod_int Try.underlying22 g0_5
  simp at e0_5; subst e0_5
  obtain ⟨y0_6, g0_6⟩ := f0 6 _ rfl
  replace g0_6 : DataW.trod enc Try.prog W 0 (fun _ => true) true m0 22 [c0_6] = some y0_6 := g0_6
  obtain ⟨a0_6, e0_6, _, w0_6⟩ := DataW.trod_int Try.underlying22 g0_6
  simp at e0_6; subst e0_6
  obtain ⟨y0_7, g0_7⟩ := f0 7 _ rfl
  replace g0_7 : DataW.trod enc Try.prog W 0 (fun _ => true) true m0 22 [c0_7] = some y0_7 := g0_7
  obtain ⟨a0_7, e0_7, _, w0_7⟩ := DataW.trod_int Try.underlying22 g0_7
  simp at e0_7; subst e0_7
  obtain ⟨y0_8, g0_8⟩ := f0 8 _ rfl
  replace g0_8 : DataW.trod enc Try.prog W 0 (fun _ => true) true m0 22 [c0_8] = some y0_8 := g0_8
  obtain ⟨a0_8, e0_8, _, w0_8⟩ := DataW.trod_int Try.underlying22 g0_8
  simp at e0_8; subst e0_8
  obtain ⟨y0_9, g0_9⟩ := f0 9 _ rfl
  replace g0_9 : DataW.trod enc Try.prog W 0 (fun _ => true) true m0 22 [c0_9] = some y0_9 := g0_9
  obtain ⟨a0_9, e0_9, _, w0_9⟩ := DataW.trod_int Try.underlying22 g0_9
  simp at e0_9; subst e0_9
  obtain ⟨y0_10, g0_10⟩ := f0 10 _ rfl
  replace g0_10 : DataW.trod enc Try.prog W 0 (fun _ => true) true m0 22 [c0_10] = some y0_10 := g0_10
  obtain ⟨a0_10, e0_10, _, w0_10⟩ := DataW.trod_int Try.underlying22 g0_10
  simp at e0_10; subst e0_10
  obtain ⟨y0_11, g0_11⟩ := f0 11 _ rfl
  replace g0_11 : DataW.trod enc Try.prog W 0 (fun _ => true) true m0 22 [c0_11] = some y0_11 := g0_11
  obtain ⟨a0_11, e0_11, _, w0_11⟩ := DataW.trod_int Try.underlying22 g0_11
  simp at e0_11; subst e0_11
  have k1 := h1
  have lt1 : ∀ x ∈ p1, x.block < W.heap.size := by obtain ⟨m, hm⟩ := k1; exact DataW.trod_lt m _ _ _ hm
  obtain ⟨a1, rfl, rfl, rfl, w1⟩ := open_int Try.underlying22 (hval 1 22 v1 rfl rfl) h1
  refine (walk W a0_0 w0_0 a0_1 w0_1 a0_2 w0_2 a0_3 w0_3 a0_4 w0_4 a0_5 w0_5 a0_6 w0_6 a0_7 w0_7 a0_8 w0_8 a0_9 w0_9 a0_10 w0_10 a0_11 w0_11 a1 w1).mono fun e W' ⟨he, bel⟩ => ?_
  subst he
  exact ⟨_, rfl, _, _, _, [], _, [], hW', trodAll_mk1 (shut_bool Try.underlying4 _), (trodAll_cons_mk (Below.trod laidOut (by kernel_rfl) (of_decide_eq_true (by kernel_rfl)) k0 bel lt0) (trodAll_cons_mk (Below.trod laidOut (by kernel_rfl) (of_decide_eq_true (by kernel_rfl)) k1 bel lt1) trodAll_mk0)), rfl, bel.frame _, fun h => by cases h⟩

theorem over : Rows.csrCountersRow.holds Try.pinned (OpenSpec.ofChange Rows.csrCountersSpec) :=
  OpenClaim.holds_of_wide 8 Try.f8 rfl rfl rfl rfl rfl rfl rfl ⟨rfl, rfl, rfl, rfl, rfl⟩ rfl rfl rfl rfl rfl (by kernel_rfl) Try.func8 (by kernel_rfl)
    (of_decide_eq_true (by kernel_rfl)) (by unfold Func.isWrapper; first | (rw [if_pos (by decide +kernel)]; kernel_rfl) | (rw [if_neg (by decide +kernel)]; exact ⟨rfl, rfl⟩))
    (fun os started H enc _ => lifted os started H enc)

/-- The statement. -/
theorem proved : Rows.CsrCountersSaid := over
#print axioms proved

end Go.Proofs.Ytlbhkmigbnhngaa.csrCounters
