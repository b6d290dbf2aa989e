/-
  Proved: for any memory and any access, the law TlbMisses returns true: what was found by a walk is found without one as long as it is kept, and a flush of it brings another walk.
  Conditions: none beyond the statement's own.
-/
import Derived.Test.YtbjjcfocdngaoaaRows
import Derived.Test.YtbjjcfocdngaoaaLayO
import Derived.Lib.Hide
import Derived.Deep.Cut
import Derived.Test.YtbjjcfocdngaoaaTlbL
import Derived.Test.YtbjjcfocdngaoaaTlbX
import Derived.Test.YtbjjcfocdngaoaaWalkQ
namespace Go.Proofs.Ytbjjcfocdngaoaa.tlbMisses
open Go Go.ChangeShapes Go.WideShapes Go.ChangeAt Go.RowKit W M D A C P K
set_option linter.unusedVariables false
set_option linter.unusedSimpArgs false

set_option maxRecDepth 100000 in
set_option maxHeartbeats 8000000 in
theorem walk (w : World) (a0_0 : Int) (w0_0 : (Lit.int .u8 a0_0).wf = true) (A0_1 : Option Addr) (n0_1 k0_1 : Nat) (mc0_1 : n0_1 ≤ k0_1) (cc0_1 : k0_1 ≤ 9223372036854775807) (el0_1 : ∀ i, i < n0_1 → ∃ ad, A0_1 = some ad ∧ ad.block < w.heap.size ∧ ∃ (x0 : Int) (x1 : Int), (w.cell? (ad.add (i * 2 + 0)) = some (.int .u32 x0) ∧ (Lit.int .u32 x0).wf = true) ∧ (w.cell? (ad.add (i * 2 + 1)) = some (.int .u64 x1) ∧ (Lit.int .u64 x1).wf = true)) (a1_0 : Int) (w1_0 : (Lit.int .u8 a1_0).wf = true) (a1_1 : Int) (w1_1 : (Lit.int .u64 a1_1).wf = true) (a1_2 : Int) (w1_2 : (Lit.int .u64 a1_2).wf = true) (a1_3 : Int) (w1_3 : (Lit.int .u64 a1_3).wf = true) (a1_4 : Int) (w1_4 : (Lit.int .i64 a1_4).wf = true) (a1_5 : Bool) (a1_6 : Bool) (a1_7 : Bool) (a1_8 : Int) (w1_8 : (Lit.int .u64 a1_8).wf = true) (a1_9 : Int) (w1_9 : (Lit.int .u64 a1_9).wf = true) (a1_10 : Int) (w1_10 : (Lit.int .u64 a1_10).wf = true) (a1_11 : Int) (w1_11 : (Lit.int .u64 a1_11).wf = true) (a1_12 : Int) (w1_12 : (Lit.int .u64 a1_12).wf = true) (a1_13 : Int) (w1_13 : (Lit.int .u64 a1_13).wf = true) (a1_14 : Int) (w1_14 : (Lit.int .u64 a1_14).wf = true) (a1_15 : Int) (w1_15 : (Lit.int .u64 a1_15).wf = true) (a1_16 : Int) (w1_16 : (Lit.int .u64 a1_16).wf = true) (a1_17 : Int) (w1_17 : (Lit.int .u64 a1_17).wf = true) (a1_18 : Int) (w1_18 : (Lit.int .u64 a1_18).wf = true) (a1_19 : Int) (w1_19 : (Lit.int .u64 a1_19).wf = true) (a1_20 : Int) (w1_20 : (Lit.int .i64 a1_20).wf = true) (a1_21 : Int) (w1_21 : (Lit.int .i64 a1_21).wf = true) (a1_22 : Int) (w1_22 : (Lit.int .u32 a1_22).wf = true) (a1_23 : Int) (w1_23 : (Lit.int .u64 a1_23).wf = true) :
    Calls Try.prog 4 #[.agg #[.int .u8 a0_0, .slice A0_1 n0_1 k0_1], .agg #[.int .u8 a1_0, .int .u64 a1_1, .int .u64 a1_2, .int .u64 a1_3, .int .i64 a1_4, .bool a1_5, .bool a1_6, .bool a1_7, .int .u64 a1_8, .int .u64 a1_9, .int .u64 a1_10, .int .u64 a1_11, .int .u64 a1_12, .int .u64 a1_13, .int .u64 a1_14, .int .u64 a1_15, .int .u64 a1_16, .int .u64 a1_17, .int .u64 a1_18, .int .u64 a1_19, .int .i64 a1_20, .int .i64 a1_21, .int .u32 a1_22, .int .u64 a1_23]] w fun e w' => e = .returned (.bool true) ∧ Below w.heap.size w w' := by
  have ha : 0 ≤ a0_0 ∧ a0_0 ≤ 255 := bounds_u8 w0_0
  have hva : B64 a1_1 := bounds_u64 w1_1
  have hc : C.Good [a1_8, a1_9, a1_10, a1_11, a1_12, a1_13, a1_14, a1_15, a1_16, a1_17, a1_18, a1_19] := good12 (bounds_u64 w1_8) (bounds_u64 w1_9) (bounds_u64 w1_10) (bounds_u64 w1_11) (bounds_u64 w1_12) (bounds_u64 w1_13) (bounds_u64 w1_14) (bounds_u64 w1_15) (bounds_u64 w1_16) (bounds_u64 w1_17) (bounds_u64 w1_18) (bounds_u64 w1_19)
  have hp : I64 a1_20 := bounds_i64 w1_20
  have hk : I64 a1_21 := bounds_i64 w1_21
  obtain ⟨f, h, hE⟩ := elems_of el0_1
  obtain ⟨bs, hbs⟩ : ∃ bs, bs = fillV f h (min n0_1 64) (List.replicate ((1 + a0_0 % 16).toNat * 4096) 0) := ⟨_, rfl⟩
  have BT := Lib.hid (fun W hW => both_c a0_0 ha A0_1 n0_1 k0_1 mc0_1 cc0_1 f h W hW)
  rw [← hbs] at BT
  have HE := Lib.hid hE
  clear hbs w0_0 w1_0 w1_1 w1_2 w1_3 w1_4 w1_8 w1_9 w1_10 w1_11 w1_12 w1_13 w1_14 w1_15 w1_16 w1_17 w1_18 w1_19 w1_20 w1_21 w1_22 w1_23 el0_1 hE
  obtain ⟨x1, hx1⟩ : ∃ x, T.toRV bs [] (gC [a1_8, a1_9, a1_10, a1_11, a1_12, a1_13, a1_14, a1_15, a1_16, a1_17, a1_18, a1_19] 9) (gC [a1_8, a1_9, a1_10, a1_11, a1_12, a1_13, a1_14, a1_15, a1_16, a1_17, a1_18, a1_19] 0) a1_20 a1_21 a1_1 = x := ⟨_, rfl⟩
  obtain ⟨F1, hF1⟩ : ∃ x, T.toFV bs [] (gC [a1_8, a1_9, a1_10, a1_11, a1_12, a1_13, a1_14, a1_15, a1_16, a1_17, a1_18, a1_19] 9) (gC [a1_8, a1_9, a1_10, a1_11, a1_12, a1_13, a1_14, a1_15, a1_16, a1_17, a1_18, a1_19] 0) a1_20 a1_21 a1_1 = x := ⟨_, rfl⟩
  obtain ⟨L1, hL1⟩ : ∃ x, T.toLV bs 8 [] (gC [a1_8, a1_9, a1_10, a1_11, a1_12, a1_13, a1_14, a1_15, a1_16, a1_17, a1_18, a1_19] 9) (gC [a1_8, a1_9, a1_10, a1_11, a1_12, a1_13, a1_14, a1_15, a1_16, a1_17, a1_18, a1_19] 0) a1_20 a1_21 a1_1 = x := ⟨_, rfl⟩
  obtain ⟨n1, hn1⟩ : ∃ x, T.toNV [] 0 (gC [a1_8, a1_9, a1_10, a1_11, a1_12, a1_13, a1_14, a1_15, a1_16, a1_17, a1_18, a1_19] 9) (gC [a1_8, a1_9, a1_10, a1_11, a1_12, a1_13, a1_14, a1_15, a1_16, a1_17, a1_18, a1_19] 0) a1_20 a1_21 a1_1 = x := ⟨_, rfl⟩
  obtain ⟨x2, hx2⟩ : ∃ x, T.toRV bs L1 (gC [a1_8, a1_9, a1_10, a1_11, a1_12, a1_13, a1_14, a1_15, a1_16, a1_17, a1_18, a1_19] 9) (gC [a1_8, a1_9, a1_10, a1_11, a1_12, a1_13, a1_14, a1_15, a1_16, a1_17, a1_18, a1_19] 0) a1_20 a1_21 a1_1 = x := ⟨_, rfl⟩
  obtain ⟨F2, hF2⟩ : ∃ x, T.toFV bs L1 (gC [a1_8, a1_9, a1_10, a1_11, a1_12, a1_13, a1_14, a1_15, a1_16, a1_17, a1_18, a1_19] 9) (gC [a1_8, a1_9, a1_10, a1_11, a1_12, a1_13, a1_14, a1_15, a1_16, a1_17, a1_18, a1_19] 0) a1_20 a1_21 a1_1 = x := ⟨_, rfl⟩
  obtain ⟨L2, hL2⟩ : ∃ x, T.toLV bs 8 L1 (gC [a1_8, a1_9, a1_10, a1_11, a1_12, a1_13, a1_14, a1_15, a1_16, a1_17, a1_18, a1_19] 9) (gC [a1_8, a1_9, a1_10, a1_11, a1_12, a1_13, a1_14, a1_15, a1_16, a1_17, a1_18, a1_19] 0) a1_20 a1_21 a1_1 = x := ⟨_, rfl⟩
  obtain ⟨n2, hn2⟩ : ∃ x, T.toNV L1 n1 (gC [a1_8, a1_9, a1_10, a1_11, a1_12, a1_13, a1_14, a1_15, a1_16, a1_17, a1_18, a1_19] 9) (gC [a1_8, a1_9, a1_10, a1_11, a1_12, a1_13, a1_14, a1_15, a1_16, a1_17, a1_18, a1_19] 0) a1_20 a1_21 a1_1 = x := ⟨_, rfl⟩
  obtain ⟨L3, hL3⟩ : ∃ x, T.flushT L2 false a1_1 true 0 = x := ⟨_, rfl⟩
  obtain ⟨x4, hx4⟩ : ∃ x, T.toRV bs L3 (gC [a1_8, a1_9, a1_10, a1_11, a1_12, a1_13, a1_14, a1_15, a1_16, a1_17, a1_18, a1_19] 9) (gC [a1_8, a1_9, a1_10, a1_11, a1_12, a1_13, a1_14, a1_15, a1_16, a1_17, a1_18, a1_19] 0) a1_20 a1_21 a1_1 = x := ⟨_, rfl⟩
  obtain ⟨F4, hF4⟩ : ∃ x, T.toFV bs L3 (gC [a1_8, a1_9, a1_10, a1_11, a1_12, a1_13, a1_14, a1_15, a1_16, a1_17, a1_18, a1_19] 9) (gC [a1_8, a1_9, a1_10, a1_11, a1_12, a1_13, a1_14, a1_15, a1_16, a1_17, a1_18, a1_19] 0) a1_20 a1_21 a1_1 = x := ⟨_, rfl⟩
  obtain ⟨L4, hL4⟩ : ∃ x, T.toLV bs 8 L3 (gC [a1_8, a1_9, a1_10, a1_11, a1_12, a1_13, a1_14, a1_15, a1_16, a1_17, a1_18, a1_19] 9) (gC [a1_8, a1_9, a1_10, a1_11, a1_12, a1_13, a1_14, a1_15, a1_16, a1_17, a1_18, a1_19] 0) a1_20 a1_21 a1_1 = x := ⟨_, rfl⟩
  obtain ⟨n4, hn4⟩ : ∃ x, T.toNV L3 n2 (gC [a1_8, a1_9, a1_10, a1_11, a1_12, a1_13, a1_14, a1_15, a1_16, a1_17, a1_18, a1_19] 9) (gC [a1_8, a1_9, a1_10, a1_11, a1_12, a1_13, a1_14, a1_15, a1_16, a1_17, a1_18, a1_19] 0) a1_20 a1_21 a1_1 = x := ⟨_, rfl⟩
  obtain ⟨e1, ⟨e2, e3, e4⟩, hfin⟩ := T.misses_all hx1 hF1 hL1 hn1 hx2 hF2 hL2 hn2 hL3 hL4 hn4
  subst e1
  have T1 := Lib.hid (fun pm gm B p v W hB hm hh => to12 hc hp hk hva hx1 hF1 hL1 hn1 pm gm B p v W hB hm hh)
  have T2 := Lib.hid (fun pm gm B p v W hB hm hh => to12 hc hp hk hva hx2 hF2 hL2 hn2 pm gm B p v W hB hm hh)
  have T4 := Lib.hid (fun pm gm B p v W hB hm hh => to12 hc hp hk hva hx4 hF4 hL4 hn4 pm gm B p v W hB hm hh)
  rw [e2, e3, e4] at T2
  rw [show vC [a1_8, a1_9, a1_10, a1_11, a1_12, a1_13, a1_14, a1_15, a1_16, a1_17, a1_18, a1_19] = .agg #[.int .u64 a1_8, .int .u64 a1_9, .int .u64 a1_10, .int .u64 a1_11, .int .u64 a1_12, .int .u64 a1_13, .int .u64 a1_14, .int .u64 a1_15, .int .u64 a1_16, .int .u64 a1_17, .int .u64 a1_18, .int .u64 a1_19] from rfl] at T1 T2 T4
  have FL := Lib.hid (fun B p v W hh => Flush_c B p 8 v n2 L2 false true a1_1 0 hva (by unfold B64; omega) W hh)
  rw [hL3] at FL
  have LN := Lib.hid (fun B p v n L W hh => Len_c B p 8 v n L W hh)
  have MI := Lib.hid (fun B p v n L W hh => Misses_c B p 8 v n L W hh)
  have NW := Lib.hid (fun W => TNew_c 8 (by unfold I64; omega) W)
  rw [show T.mostV 8 = 8 from rfl] at NW
  have HFIN := Lib.hid hfin
  clear hfin hx1 hF1 hL1 hn1 hx2 hF2 hL2 hn2 hL3 hx4 hF4 hL4 hn4 hc hp hk e2 e3 e4
  have HR0 := Lib.hid ((Row.fresh w 24 [.int .u8 a0_0, .slice A0_1 n0_1 k0_1]).alloc (.cells #[.int .u8 a1_0, .int .u64 a1_1, .int .u64 a1_2, .int .u64 a1_3, .int .i64 a1_4, .bool a1_5, .bool a1_6, .bool a1_7, .int .u64 a1_8, .int .u64 a1_9, .int .u64 a1_10, .int .u64 a1_11, .int .u64 a1_12, .int .u64 a1_13, .int .u64 a1_14, .int .u64 a1_15, .int .u64 a1_16, .int .u64 a1_17, .int .u64 a1_18, .int .u64 a1_19, .int .i64 a1_20, .int .i64 a1_21, .int .u32 a1_22, .int .u64 a1_23] 40))
  have HT0 := Lib.hid (Row.fresh (w.alloc (.cells #[.int .u8 a0_0, .slice A0_1 n0_1 k0_1] 24)) 40 [.int .u8 a1_0, .int .u64 a1_1, .int .u64 a1_2, .int .u64 a1_3, .int .i64 a1_4, .bool a1_5, .bool a1_6, .bool a1_7, .int .u64 a1_8, .int .u64 a1_9, .int .u64 a1_10, .int .u64 a1_11, .int .u64 a1_12, .int .u64 a1_13, .int .u64 a1_14, .int .u64 a1_15, .int .u64 a1_16, .int .u64 a1_17, .int .u64 a1_18, .int .u64 a1_19, .int .i64 a1_20, .int .i64 a1_21, .int .u32 a1_22, .int .u64 a1_23])
  rw [show (w.alloc (.cells #[.int .u8 a0_0, .slice A0_1 n0_1 k0_1] 24)).heap.size = w.heap.size + 1 from Array.size_push ..] at HT0
  have HG0 := Lib.hid (gr_alloc (gr_alloc (gr_refl w none) (.cells #[.int .u8 a0_0, .slice A0_1 n0_1 k0_1] 24)) (.cells #[.int .u8 a1_0, .int .u64 a1_1, .int .u64 a1_2, .int .u64 a1_3, .int .i64 a1_4, .bool a1_5, .bool a1_6, .bool a1_7, .int .u64 a1_8, .int .u64 a1_9, .int .u64 a1_10, .int .u64 a1_11, .int .u64 a1_12, .int .u64 a1_13, .int .u64 a1_14, .int .u64 a1_15, .int .u64 a1_16, .int .u64 a1_17, .int .u64 a1_18, .int .u64 a1_19, .int .i64 a1_20, .int .i64 a1_21, .int .u32 a1_22, .int .u64 a1_23] 40))
  unfold B64 at hva
  go_enter Try.func4, Try.ntmps4
  go_wp2_with fail
  generalize (w.alloc (.cells #[.int .u8 a0_0, .slice A0_1 n0_1 k0_1] 24)).alloc (.cells #[.int .u8 a1_0, .int .u64 a1_1, .int .u64 a1_2, .int .u64 a1_3, .int .i64 a1_4, .bool a1_5, .bool a1_6, .bool a1_7, .int .u64 a1_8, .int .u64 a1_9, .int .u64 a1_10, .int .u64 a1_11, .int .u64 a1_12, .int .u64 a1_13, .int .u64 a1_14, .int .u64 a1_15, .int .u64 a1_16, .int .u64 a1_17, .int .u64 a1_18, .int .u64 a1_19, .int .i64 a1_20, .int .i64 a1_21, .int .u32 a1_22, .int .u64 a1_23] 40) = V at *
  refine (shown12_c _).mono ?_
  rintro e w1 ⟨rfl, hG⟩
  have hR1 := HR0.out.grown hG (by simp)
  have hT1 := HT0.out.grown hG (by simp)
  have hG1 := gr_trans HG0.out hG
  have hE1 := (HE.out.turn (w' := w1) (fun ad had => cell_grown hG1 had (by simp))).more hG1.size
  clear HR0 HT0 HG0 HE hG
  obtain ⟨b, hb⟩ : ∃ b, b = w.heap.size := ⟨_, rfl⟩
  rw [← hb] at hR1 hT1 ⊢
  have HB := Lib.hid hb
  clear hb
  have m0 : w1.cell? ⟨b, 0, none⟩ = some (.int .u8 a0_0) := hR1.cell 0
  have m1 : w1.cell? ⟨b, 1, none⟩ = some (.slice A0_1 n0_1 k0_1) := hR1.cell 1
  have lt := hR1.lt
  clear hR1
  go_wp2_with fail
  refine (BT.out _ hE1).mono ?_
  rintro e w2 ⟨pm, gm, p', g', rfl, hA, -, hG⟩
  have hT2 := hT1.grown hG (by simp)
  have hG2 := gr_trans hG1 hG
  clear hT1 hG hG1 hE1 m0 m1 lt BT
  go_wp2_with fail
  refine (NW.out _).mono ?_
  rintro e w3 ⟨rfl, hN, hG⟩
  have hL : Lt w 40 (b + 1) [.int .u8 a1_0, .int .u64 a1_1, .int .u64 a1_2, .int .u64 a1_3, .int .i64 a1_4, .bool a1_5, .bool a1_6, .bool a1_7, .int .u64 a1_8, .int .u64 a1_9, .int .u64 a1_10, .int .u64 a1_11, .int .u64 a1_12, .int .u64 a1_13, .int .u64 a1_14, .int .u64 a1_15, .int .u64 a1_16, .int .u64 a1_17, .int .u64 a1_18, .int .u64 a1_19, .int .i64 a1_20, .int .i64 a1_21, .int .u32 a1_22, .int .u64 a1_23] pm gm bs w2.heap.size 8 (.slice none 0 0) 0 [] w3 := ⟨hT2.grown hG (by simp), hA.kept hG, held_less hN hG2.size, gr_trans hG2 hG⟩
  clear hT2 hA hN hG hG2 NW
  generalize w2.heap.size = p at *
  generalize b + 1 = t at *
  have k0 : w3.cell? ⟨t, 0, none⟩ = some (.int .u8 a1_0) := hL.opr.cell 0
  have k1 : w3.cell? ⟨t, 1, none⟩ = some (.int .u64 a1_1) := hL.opr.cell 1
  have k2 : w3.cell? ⟨t, 2, none⟩ = some (.int .u64 a1_2) := hL.opr.cell 2
  have k3 : w3.cell? ⟨t, 3, none⟩ = some (.int .u64 a1_3) := hL.opr.cell 3
  have k4 : w3.cell? ⟨t, 4, none⟩ = some (.int .i64 a1_4) := hL.opr.cell 4
  have k5 : w3.cell? ⟨t, 5, none⟩ = some (.bool a1_5) := hL.opr.cell 5
  have k6 : w3.cell? ⟨t, 6, none⟩ = some (.bool a1_6) := hL.opr.cell 6
  have k7 : w3.cell? ⟨t, 7, none⟩ = some (.bool a1_7) := hL.opr.cell 7
  have k8 : w3.cell? ⟨t, 8, none⟩ = some (.int .u64 a1_8) := hL.opr.cell 8
  have k9 : w3.cell? ⟨t, 9, none⟩ = some (.int .u64 a1_9) := hL.opr.cell 9
  have k10 : w3.cell? ⟨t, 10, none⟩ = some (.int .u64 a1_10) := hL.opr.cell 10
  have k11 : w3.cell? ⟨t, 11, none⟩ = some (.int .u64 a1_11) := hL.opr.cell 11
  have k12 : w3.cell? ⟨t, 12, none⟩ = some (.int .u64 a1_12) := hL.opr.cell 12
  have k13 : w3.cell? ⟨t, 13, none⟩ = some (.int .u64 a1_13) := hL.opr.cell 13
  have k14 : w3.cell? ⟨t, 14, none⟩ = some (.int .u64 a1_14) := hL.opr.cell 14
  have k15 : w3.cell? ⟨t, 15, none⟩ = some (.int .u64 a1_15) := hL.opr.cell 15
  have k16 : w3.cell? ⟨t, 16, none⟩ = some (.int .u64 a1_16) := hL.opr.cell 16
  have k17 : w3.cell? ⟨t, 17, none⟩ = some (.int .u64 a1_17) := hL.opr.cell 17
  have k18 : w3.cell? ⟨t, 18, none⟩ = some (.int .u64 a1_18) := hL.opr.cell 18
  have k19 : w3.cell? ⟨t, 19, none⟩ = some (.int .u64 a1_19) := hL.opr.cell 19
  have k20 : w3.cell? ⟨t, 20, none⟩ = some (.int .i64 a1_20) := hL.opr.cell 20
  have k21 : w3.cell? ⟨t, 21, none⟩ = some (.int .i64 a1_21) := hL.opr.cell 21
  have k22 : w3.cell? ⟨t, 22, none⟩ = some (.int .u32 a1_22) := hL.opr.cell 22
  have k23 : w3.cell? ⟨t, 23, none⟩ = some (.int .u64 a1_23) := hL.opr.cell 23
  have lt := hL.opr.lt
  have HL := Lib.hid hL
  clear hL
  go_wp2_with fail
  refine (T1.out _ _ _ _ _ _ HL.out.gr.size HL.out.mem HL.out.row).mono ?_
  rintro e w4 ⟨rfl, hT⟩
  obtain ⟨v1, hL, -⟩ := HL.out.turn (by decide) (by decide) hT
  have hL1 := hL.keep (gr_alloc (gr_refl w4 none) (.cells #[.bool F1.isf, .int .i64 F1.cause, .int .u64 F1.val] 43))
  have q1r := Row.fresh w4 43 [.bool F1.isf, .int .i64 F1.cause, .int .u64 F1.val]
  clear hT hL HL T1 k0 k1 k2 k3 k4 k5 k6 k7 k8 k9 k10 k11 k12 k13 k14 k15 k16 k17 k18 k19 k20 k21 k22 k23 lt
  go_upto_region 7 with (fail)
  generalize w4.alloc (.cells #[.bool F1.isf, .int .i64 F1.cause, .int .u64 F1.val] 43) = U1 at *
  generalize w4.heap.size = q1 at *
  go_wp2_with fail
  refine (MI.out _ _ _ _ _ _ hL1.row).mono ?_
  rintro e w5 ⟨rfl, rfl⟩
  have k0 : U1.cell? ⟨t, 0, none⟩ = some (.int .u8 a1_0) := hL1.opr.cell 0
  have k1 : U1.cell? ⟨t, 1, none⟩ = some (.int .u64 a1_1) := hL1.opr.cell 1
  have k2 : U1.cell? ⟨t, 2, none⟩ = some (.int .u64 a1_2) := hL1.opr.cell 2
  have k3 : U1.cell? ⟨t, 3, none⟩ = some (.int .u64 a1_3) := hL1.opr.cell 3
  have k4 : U1.cell? ⟨t, 4, none⟩ = some (.int .i64 a1_4) := hL1.opr.cell 4
  have k5 : U1.cell? ⟨t, 5, none⟩ = some (.bool a1_5) := hL1.opr.cell 5
  have k6 : U1.cell? ⟨t, 6, none⟩ = some (.bool a1_6) := hL1.opr.cell 6
  have k7 : U1.cell? ⟨t, 7, none⟩ = some (.bool a1_7) := hL1.opr.cell 7
  have k8 : U1.cell? ⟨t, 8, none⟩ = some (.int .u64 a1_8) := hL1.opr.cell 8
  have k9 : U1.cell? ⟨t, 9, none⟩ = some (.int .u64 a1_9) := hL1.opr.cell 9
  have k10 : U1.cell? ⟨t, 10, none⟩ = some (.int .u64 a1_10) := hL1.opr.cell 10
  have k11 : U1.cell? ⟨t, 11, none⟩ = some (.int .u64 a1_11) := hL1.opr.cell 11
  have k12 : U1.cell? ⟨t, 12, none⟩ = some (.int .u64 a1_12) := hL1.opr.cell 12
  have k13 : U1.cell? ⟨t, 13, none⟩ = some (.int .u64 a1_13) := hL1.opr.cell 13
  have k14 : U1.cell? ⟨t, 14, none⟩ = some (.int .u64 a1_14) := hL1.opr.cell 14
  have k15 : U1.cell? ⟨t, 15, none⟩ = some (.int .u64 a1_15) := hL1.opr.cell 15
  have k16 : U1.cell? ⟨t, 16, none⟩ = some (.int .u64 a1_16) := hL1.opr.cell 16
  have k17 : U1.cell? ⟨t, 17, none⟩ = some (.int .u64 a1_17) := hL1.opr.cell 17
  have k18 : U1.cell? ⟨t, 18, none⟩ = some (.int .u64 a1_18) := hL1.opr.cell 18
  have k19 : U1.cell? ⟨t, 19, none⟩ = some (.int .u64 a1_19) := hL1.opr.cell 19
  have k20 : U1.cell? ⟨t, 20, none⟩ = some (.int .i64 a1_20) := hL1.opr.cell 20
  have k21 : U1.cell? ⟨t, 21, none⟩ = some (.int .i64 a1_21) := hL1.opr.cell 21
  have k22 : U1.cell? ⟨t, 22, none⟩ = some (.int .u32 a1_22) := hL1.opr.cell 22
  have k23 : U1.cell? ⟨t, 23, none⟩ = some (.int .u64 a1_23) := hL1.opr.cell 23
  have lt := hL1.opr.lt
  have HL := Lib.hid hL1
  have HQ1 := Lib.hid q1r
  clear hL1 q1r
  go_wp2_with fail
  refine (T2.out _ _ _ _ _ _ HL.out.gr.size HL.out.mem HL.out.row).mono ?_
  rintro e w4 ⟨rfl, hT⟩
  obtain ⟨v2, hL, hbt⟩ := HL.out.turn (by decide) (by decide) hT
  have hL2 := hL.keep (gr_alloc (gr_refl w4 none) (.cells #[.bool F1.isf, .int .i64 F1.cause, .int .u64 F1.val] 43))
  have q1r := (own_row HL.out hbt HQ1.out (by decide) (by decide)).alloc (.cells #[.bool F1.isf, .int .i64 F1.cause, .int .u64 F1.val] 43)
  have q2r := Row.fresh w4 43 [.bool F1.isf, .int .i64 F1.cause, .int .u64 F1.val]
  clear hT hL hbt HL HQ1 T2 k0 k1 k2 k3 k4 k5 k6 k7 k8 k9 k10 k11 k12 k13 k14 k15 k16 k17 k18 k19 k20 k21 k22 k23 lt
  go_upto_region 9 with (fail)
  generalize w4.alloc (.cells #[.bool F1.isf, .int .i64 F1.cause, .int .u64 F1.val] 43) = U2 at *
  generalize w4.heap.size = q2 at *
  have c0 : U2.cell? ⟨q1, 0, none⟩ = some (.bool F1.isf) := q1r.cell 0
  have c1 : U2.cell? ⟨q1, 1, none⟩ = some (.int .i64 F1.cause) := q1r.cell 1
  have c2 : U2.cell? ⟨q1, 2, none⟩ = some (.int .u64 F1.val) := q1r.cell 2
  have d0 : U2.cell? ⟨q2, 0, none⟩ = some (.bool F1.isf) := q2r.cell 0
  have d1 : U2.cell? ⟨q2, 1, none⟩ = some (.int .i64 F1.cause) := q2r.cell 1
  have d2 : U2.cell? ⟨q2, 2, none⟩ = some (.int .u64 F1.val) := q2r.cell 2
  have lq1 := q1r.lt
  have lq2 := q2r.lt
  have hneq := neq_Fs F1.isf F1.cause F1.val U2
  have HL := Lib.hid hL2
  clear hL2 q1r q2r
  go_wp2_with fail
  refine (MI.out _ _ _ _ _ _ HL.out.row).mono ?_
  rintro e w5 ⟨rfl, rfl⟩
  have hfin := HFIN.out
  clear HFIN
  generalize F1.isf = isf at *
  generalize F1.cause = fca at *
  generalize F1.val = fva at *
  rcases hfin with (⟨rfl, rfl, rfl, rfl⟩ | ⟨rfl, rfl, rfl⟩) | ⟨rfl, rfl, rfl, rfl, rfl, hl4⟩
  · go_wp2_with fail
    refine (LN.out _ _ _ _ _ _ HL.out.row).mono ?_
    rintro e w5 ⟨rfl, rfl⟩
    go_wp2_with fail
    go_ret
    exact ⟨rfl, gr_below HL.out.gr⟩
  · cases isf
    · go_wp2_with fail
      refine (LN.out _ _ _ _ _ _ HL.out.row).mono ?_
      rintro e w5 ⟨rfl, rfl⟩
      go_wp2_with fail
      go_ret
      exact ⟨rfl, gr_below HL.out.gr⟩
    · go_wp2_with fail
      refine (LN.out _ _ _ _ _ _ HL.out.row).mono ?_
      rintro e w5 ⟨rfl, rfl⟩
      go_wp2_with fail
      go_ret
      exact ⟨rfl, gr_below HL.out.gr⟩
  · have HL4 := Lib.hid hl4
    clear hl4
    have k0 : U2.cell? ⟨t, 0, none⟩ = some (.int .u8 a1_0) := HL.out.opr.cell 0
    have k1 : U2.cell? ⟨t, 1, none⟩ = some (.int .u64 a1_1) := HL.out.opr.cell 1
    have k2 : U2.cell? ⟨t, 2, none⟩ = some (.int .u64 a1_2) := HL.out.opr.cell 2
    have k3 : U2.cell? ⟨t, 3, none⟩ = some (.int .u64 a1_3) := HL.out.opr.cell 3
    have k4 : U2.cell? ⟨t, 4, none⟩ = some (.int .i64 a1_4) := HL.out.opr.cell 4
    have k5 : U2.cell? ⟨t, 5, none⟩ = some (.bool a1_5) := HL.out.opr.cell 5
    have k6 : U2.cell? ⟨t, 6, none⟩ = some (.bool a1_6) := HL.out.opr.cell 6
    have k7 : U2.cell? ⟨t, 7, none⟩ = some (.bool a1_7) := HL.out.opr.cell 7
    have k8 : U2.cell? ⟨t, 8, none⟩ = some (.int .u64 a1_8) := HL.out.opr.cell 8
    have k9 : U2.cell? ⟨t, 9, none⟩ = some (.int .u64 a1_9) := HL.out.opr.cell 9
    have k10 : U2.cell? ⟨t, 10, none⟩ = some (.int .u64 a1_10) := HL.out.opr.cell 10
    have k11 : U2.cell? ⟨t, 11, none⟩ = some (.int .u64 a1_11) := HL.out.opr.cell 11
    have k12 : U2.cell? ⟨t, 12, none⟩ = some (.int .u64 a1_12) := HL.out.opr.cell 12
    have k13 : U2.cell? ⟨t, 13, none⟩ = some (.int .u64 a1_13) := HL.out.opr.cell 13
    have k14 : U2.cell? ⟨t, 14, none⟩ = some (.int .u64 a1_14) := HL.out.opr.cell 14
    have k15 : U2.cell? ⟨t, 15, none⟩ = some (.int .u64 a1_15) := HL.out.opr.cell 15
    have k16 : U2.cell? ⟨t, 16, none⟩ = some (.int .u64 a1_16) := HL.out.opr.cell 16
    have k17 : U2.cell? ⟨t, 17, none⟩ = some (.int .u64 a1_17) := HL.out.opr.cell 17
    have k18 : U2.cell? ⟨t, 18, none⟩ = some (.int .u64 a1_18) := HL.out.opr.cell 18
    have k19 : U2.cell? ⟨t, 19, none⟩ = some (.int .u64 a1_19) := HL.out.opr.cell 19
    have k20 : U2.cell? ⟨t, 20, none⟩ = some (.int .i64 a1_20) := HL.out.opr.cell 20
    have k21 : U2.cell? ⟨t, 21, none⟩ = some (.int .i64 a1_21) := HL.out.opr.cell 21
    have k22 : U2.cell? ⟨t, 22, none⟩ = some (.int .u32 a1_22) := HL.out.opr.cell 22
    have k23 : U2.cell? ⟨t, 23, none⟩ = some (.int .u64 a1_23) := HL.out.opr.cell 23
    have lt := HL.out.opr.lt
    go_wp2_with fail
    refine (FL.out _ _ _ _ HL.out.row).mono ?_
    rintro e w4 ⟨rfl, hT⟩
    obtain ⟨v3, hL, -⟩ := HL.out.turn (by decide) (by decide) hT
    clear hT HL FL c0 c1 c2 d0 d1 d2 lq1 lq2 hneq k0 k1 k2 k3 k4 k5 k6 k7 k8 k9 k10 k11 k12 k13 k14 k15 k16 k17 k18 k19 k20 k21 k22 k23 lt
    go_wp2_with fail
    refine (LN.out _ _ _ _ _ _ hL.row).mono ?_
    rintro e w5 ⟨rfl, rfl⟩
    have k0 : w4.cell? ⟨t, 0, none⟩ = some (.int .u8 a1_0) := hL.opr.cell 0
    have k1 : w4.cell? ⟨t, 1, none⟩ = some (.int .u64 a1_1) := hL.opr.cell 1
    have k2 : w4.cell? ⟨t, 2, none⟩ = some (.int .u64 a1_2) := hL.opr.cell 2
    have k3 : w4.cell? ⟨t, 3, none⟩ = some (.int .u64 a1_3) := hL.opr.cell 3
    have k4 : w4.cell? ⟨t, 4, none⟩ = some (.int .i64 a1_4) := hL.opr.cell 4
    have k5 : w4.cell? ⟨t, 5, none⟩ = some (.bool a1_5) := hL.opr.cell 5
    have k6 : w4.cell? ⟨t, 6, none⟩ = some (.bool a1_6) := hL.opr.cell 6
    have k7 : w4.cell? ⟨t, 7, none⟩ = some (.bool a1_7) := hL.opr.cell 7
    have k8 : w4.cell? ⟨t, 8, none⟩ = some (.int .u64 a1_8) := hL.opr.cell 8
    have k9 : w4.cell? ⟨t, 9, none⟩ = some (.int .u64 a1_9) := hL.opr.cell 9
    have k10 : w4.cell? ⟨t, 10, none⟩ = some (.int .u64 a1_10) := hL.opr.cell 10
    have k11 : w4.cell? ⟨t, 11, none⟩ = some (.int .u64 a1_11) := hL.opr.cell 11
    have k12 : w4.cell? ⟨t, 12, none⟩ = some (.int .u64 a1_12) := hL.opr.cell 12
    have k13 : w4.cell? ⟨t, 13, none⟩ = some (.int .u64 a1_13) := hL.opr.cell 13
    have k14 : w4.cell? ⟨t, 14, none⟩ = some (.int .u64 a1_14) := hL.opr.cell 14
    have k15 : w4.cell? ⟨t, 15, none⟩ = some (.int .u64 a1_15) := hL.opr.cell 15
    have k16 : w4.cell? ⟨t, 16, none⟩ = some (.int .u64 a1_16) := hL.opr.cell 16
    have k17 : w4.cell? ⟨t, 17, none⟩ = some (.int .u64 a1_17) := hL.opr.cell 17
    have k18 : w4.cell? ⟨t, 18, none⟩ = some (.int .u64 a1_18) := hL.opr.cell 18
    have k19 : w4.cell? ⟨t, 19, none⟩ = some (.int .u64 a1_19) := hL.opr.cell 19
    have k20 : w4.cell? ⟨t, 20, none⟩ = some (.int .i64 a1_20) := hL.opr.cell 20
    have k21 : w4.cell? ⟨t, 21, none⟩ = some (.int .i64 a1_21) := hL.opr.cell 21
    have k22 : w4.cell? ⟨t, 22, none⟩ = some (.int .u32 a1_22) := hL.opr.cell 22
    have k23 : w4.cell? ⟨t, 23, none⟩ = some (.int .u64 a1_23) := hL.opr.cell 23
    have lt := hL.opr.lt
    have HL := Lib.hid hL
    clear hL
    go_wp2_with fail
    refine (T4.out _ _ _ _ _ _ HL.out.gr.size HL.out.mem HL.out.row).mono ?_
    rintro e w5 ⟨rfl, hT⟩
    obtain ⟨v4, hL, -⟩ := HL.out.turn (by decide) (by decide) hT
    clear hT HL T4 k0 k1 k2 k3 k4 k5 k6 k7 k8 k9 k10 k11 k12 k13 k14 k15 k16 k17 k18 k19 k20 k21 k22 k23 lt
    go_wp2_with fail
    refine (MI.out _ _ _ _ _ _ hL.row).mono ?_
    rintro e w6 ⟨rfl, rfl⟩
    go_wp2_with fail
    refine (LN.out _ _ _ _ _ _ hL.row).mono ?_
    rw [HL4.out]
    rintro e w6 ⟨rfl, rfl⟩
    have HBE := Lib.hid (gr_below hL.gr)
    clear hL
    go_wp2_with fail
    go_ret
    exact ⟨rfl, HBE.out⟩

theorem own : ownKnob Try.prog.godebug = none := by kernel_rfl
theorem laidOut : laidOutB Try.prog = true := by kernel_rfl

set_option maxRecDepth 100000 in
theorem lifted (os : Os) (started : os.Started) (H : Type) (enc : TypeId × Value → H) :
    ReturnsInHanded {} Try.checked os 4 .any (Rows.tlbMissesSpec.pre6 enc Try.prog Try.f4 Rows.tlbMissesRow.domain false) (Rows.tlbMissesSpec.post enc Try.prog Try.f4 false true false false) := by
  refine returnsInHanded_of_change (C := Try.checked) own started (by kernel_rfl) Try.func4
    (ChangeSpec.witness6 (enc := enc) (C := Try.checked) false ⟨#[], #[.agg #[.int .u8 0, .slice none 0 0], .agg #[.int .u8 0, .int .u64 0, .int .u64 0, .int .u64 0, .int .i64 0, .bool false, .bool false, .bool false, .int .u64 0, .int .u64 0, .int .u64 0, .int .u64 0, .int .u64 0, .int .u64 0, .int .u64 0, .int .u64 0, .int .u64 0, .int .u64 0, .int .u64 0, .int .u64 0, .int .i64 0, .int .i64 0, .int .u32 0, .int .u64 0]], []⟩ 8 (by kernel_rfl) (by kernel_rfl) (by kernel_rfl) (by kernel_rfl)) ?_
  intro W base args ds gs before hval0 hW hcnd _
  have hval : ∀ (j : Nat) t v, Try.f4.params[j]? = some t → args[j]? = some v → Value.okWide Try.prog W .any base t v := hval0
  have hW' := hW
  obtain ⟨p, q, hA0, hV, rfl, hfz, hnd⟩ := hW
  have hA : DataW.TrodAll enc Try.prog W 0 (fun _ => true) true Try.f4.params.toList args.toList ds p := hA0
  rw [Try.params4] at hA hval
  obtain ⟨v0, vs0, d0, ds0, p0, q0, hargs, rfl, rfl, h0, r0⟩ := trodAll_cons hA
  obtain ⟨v1, vs1, d1, ds1, p1, q1, rfl, rfl, rfl, h1, r1⟩ := trodAll_cons r0
  obtain ⟨rfl, rfl, rfl⟩ := trodAll_nil r1
  obtain rfl : args = #[v0, v1] := by cases args; simp_all
  obtain ⟨rfl, rfl⟩ := trodVars_none hV
  clear hA0 hval0 hA
  have k0 := h0
  have lt0 : ∀ x ∈ p0, x.block < W.heap.size := by obtain ⟨m, hm⟩ := k0; exact DataW.trod_lt m _ _ _ hm
  obtain ⟨xs0, rfl, l0, m0, f0⟩ := Op.open_struct Try.underlying24 (hval 0 24 v0 rfl rfl) h0
  rw [show Try.prog.cellsOf 24 = 2 from by kernel_rfl] at l0
  obtain _ | ⟨c0_0, xs0⟩ := xs0
  · simp at l0
  obtain _ | ⟨c0_1, xs0⟩ := xs0
  · simp at l0
  obtain _ | ⟨_, _⟩ := xs0
  rotate_left
  · simp at l0
  clear h0
  obtain ⟨zf0_0, gf0_0⟩ := f0 0 _ rfl
  replace gf0_0 : DataW.trod enc Try.prog W 0 (fun _ => true) true m0 5 [c0_0] = some zf0_0 := gf0_0
  obtain ⟨a0_0, e0_0, _, w0_0⟩ := DataW.trod_int Try.underlying5 gf0_0
  simp at e0_0; subst e0_0
  obtain ⟨zf0_1, gf0_1⟩ := f0 1 _ rfl
  replace gf0_1 : DataW.trod enc Try.prog W 0 (fun _ => true) true m0 22 [c0_1] = some zf0_1 := gf0_1
  obtain ⟨A0_1, n0_1, k0_1, e0_1, mc0_1, cc0_1, raw0_1⟩ := Op.read_items Try.underlying22 Try.underlying59 (by kernel_rfl) (by kernel_rfl) (by decide) gf0_1
  subst e0_1
  have el0_1 : ∀ i, i < n0_1 → ∃ ad, A0_1 = some ad ∧ ad.block < W.heap.size ∧ ∃ (x0 : Int) (x1 : Int), (W.cell? (ad.add (i * 2 + 0)) = some (.int .u32 x0) ∧ (Lit.int .u32 x0).wf = true) ∧ (W.cell? (ad.add (i * 2 + 1)) = some (.int .u64 x1) ∧ (Lit.int .u64 x1).wf = true) := by
    intro i hi
    obtain ⟨ad, hA, hb, n, hf⟩ := raw0_1 i hi
    obtain ⟨u0, yy0, hu0, ht0⟩ := hf 0 _ rfl
    obtain ⟨x0, ee0, _, ww0⟩ := DataW.trod_int Try.underlying38 ht0; simp only [List.cons.injEq, and_true] at ee0; subst ee0
    obtain ⟨u1, yy1, hu1, ht1⟩ := hf 1 _ rfl
    obtain ⟨x1, ee1, _, ww1⟩ := DataW.trod_int Try.underlying33 ht1; simp only [List.cons.injEq, and_true] at ee1; subst ee1
    exact ⟨ad, hA, hb, x0, x1, ⟨hu0, ww0⟩, ⟨hu1, ww1⟩⟩
  have k1 := h1
  have lt1 : ∀ x ∈ p1, x.block < W.heap.size := by obtain ⟨m, hm⟩ := k1; exact DataW.trod_lt m _ _ _ hm
  obtain ⟨xs1, rfl, l1, m1, f1⟩ := Op.open_struct Try.underlying40 (hval 1 40 v1 rfl rfl) h1
  rw [show Try.prog.cellsOf 40 = 24 from by kernel_rfl] at l1
  obtain _ | ⟨c1_0, xs1⟩ := xs1
  · simp at l1
  obtain _ | ⟨c1_1, xs1⟩ := xs1
  · simp at l1
  obtain _ | ⟨c1_2, xs1⟩ := xs1
  · simp at l1
  obtain _ | ⟨c1_3, xs1⟩ := xs1
  · simp at l1
  obtain _ | ⟨c1_4, xs1⟩ := xs1
  · simp at l1
  obtain _ | ⟨c1_5, xs1⟩ := xs1
  · simp at l1
  obtain _ | ⟨c1_6, xs1⟩ := xs1
  · simp at l1
  obtain _ | ⟨c1_7, xs1⟩ := xs1
  · simp at l1
  obtain _ | ⟨c1_8, xs1⟩ := xs1
  · simp at l1
  obtain _ | ⟨c1_9, xs1⟩ := xs1
  · simp at l1
  obtain _ | ⟨c1_10, xs1⟩ := xs1
  · simp at l1
  obtain _ | ⟨c1_11, xs1⟩ := xs1
  · simp at l1
  obtain _ | ⟨c1_12, xs1⟩ := xs1
  · simp at l1
  obtain _ | ⟨c1_13, xs1⟩ := xs1
  · simp at l1
  obtain _ | ⟨c1_14, xs1⟩ := xs1
  · simp at l1
  obtain _ | ⟨c1_15, xs1⟩ := xs1
  · simp at l1
  obtain _ | ⟨c1_16, xs1⟩ := xs1
  · simp at l1
  obtain _ | ⟨c1_17, xs1⟩ := xs1
  · simp at l1
  obtain _ | ⟨c1_18, xs1⟩ := xs1
  · simp at l1
  obtain _ | ⟨c1_19, xs1⟩ := xs1
  · simp at l1
  obtain _ | ⟨c1_20, xs1⟩ := xs1
  · simp at l1
  obtain _ | ⟨c1_21, xs1⟩ := xs1
  · simp at l1
  obtain _ | ⟨c1_22, xs1⟩ := xs1
  · simp at l1
  obtain _ | ⟨c1_23, xs1⟩ := xs1
  · simp at l1
  obtain _ | ⟨_, _⟩ := xs1
  rotate_left
  · simp at l1
  clear h1
  obtain ⟨zf1_0, gf1_0⟩ := f1 0 _ rfl
  replace gf1_0 : DataW.trod enc Try.prog W 0 (fun _ => true) true m1 5 [c1_0] = some zf1_0 := gf1_0
  obtain ⟨a1_0, e1_0, _, w1_0⟩ := DataW.trod_int Try.underlying5 gf1_0
  simp at e1_0; subst e1_0
  obtain ⟨zf1_1, gf1_1⟩ := f1 1 _ rfl
  replace gf1_1 : DataW.trod enc Try.prog W 0 (fun _ => true) true m1 33 [c1_1] = some zf1_1 := gf1_1
  obtain ⟨a1_1, e1_1, _, w1_1⟩ := DataW.trod_int Try.underlying33 gf1_1
  simp at e1_1; subst e1_1
  obtain ⟨zf1_2, gf1_2⟩ := f1 2 _ rfl
  replace gf1_2 : DataW.trod enc Try.prog W 0 (fun _ => true) true m1 33 [c1_2] = some zf1_2 := gf1_2
  obtain ⟨a1_2, e1_2, _, w1_2⟩ := DataW.trod_int Try.underlying33 gf1_2
  simp at e1_2; subst e1_2
  obtain ⟨zf1_3, gf1_3⟩ := f1 3 _ rfl
  replace gf1_3 : DataW.trod enc Try.prog W 0 (fun _ => true) true m1 35 [c1_3, c1_4, c1_5] = some zf1_3 := gf1_3
  obtain ⟨mf1_3, ff1_3⟩ := Op.read_struct Try.underlying35 gf1_3
  obtain ⟨zff1_3_0, gff1_3_0⟩ := ff1_3 0 _ rfl
  replace gff1_3_0 : DataW.trod enc Try.prog W 0 (fun _ => true) true mf1_3 33 [c1_3] = some zff1_3_0 := gff1_3_0
  obtain ⟨a1_3, e1_3, _, w1_3⟩ := DataW.trod_int Try.underlying33 gff1_3_0
  simp at e1_3; subst e1_3
  obtain ⟨zff1_3_1, gff1_3_1⟩ := ff1_3 1 _ rfl
  replace gff1_3_1 : DataW.trod enc Try.prog W 0 (fun _ => true) true mf1_3 3 [c1_4] = some zff1_3_1 := gff1_3_1
  obtain ⟨a1_4, e1_4, _, w1_4⟩ := DataW.trod_int Try.underlying3 gff1_3_1
  simp at e1_4; subst e1_4
  obtain ⟨zff1_3_2, gff1_3_2⟩ := ff1_3 2 _ rfl
  replace gff1_3_2 : DataW.trod enc Try.prog W 0 (fun _ => true) true mf1_3 4 [c1_5] = some zff1_3_2 := gff1_3_2
  obtain ⟨a1_5, e1_5, _⟩ := DataW.trod_bool Try.underlying4 gff1_3_2
  simp at e1_5; subst e1_5
  obtain ⟨zf1_4, gf1_4⟩ := f1 4 _ rfl
  replace gf1_4 : DataW.trod enc Try.prog W 0 (fun _ => true) true m1 4 [c1_6] = some zf1_4 := gf1_4
  obtain ⟨a1_6, e1_6, _⟩ := DataW.trod_bool Try.underlying4 gf1_4
  simp at e1_6; subst e1_6
  obtain ⟨zf1_5, gf1_5⟩ := f1 5 _ rfl
  replace gf1_5 : DataW.trod enc Try.prog W 0 (fun _ => true) true m1 4 [c1_7] = some zf1_5 := gf1_5
  obtain ⟨a1_7, e1_7, _⟩ := DataW.trod_bool Try.underlying4 gf1_5
  simp at e1_7; subst e1_7
  obtain ⟨zf1_6, gf1_6⟩ := f1 6 _ rfl
  replace gf1_6 : DataW.trod enc Try.prog W 0 (fun _ => true) true m1 37 [c1_8, c1_9, c1_10, c1_11, c1_12, c1_13, c1_14, c1_15, c1_16, c1_17, c1_18, c1_19] = some zf1_6 := gf1_6
  obtain ⟨mf1_6, ff1_6⟩ := Op.read_struct Try.underlying37 gf1_6
  obtain ⟨zff1_6_0, gff1_6_0⟩ := ff1_6 0 _ rfl
  replace gff1_6_0 : DataW.trod enc Try.prog W 0 (fun _ => true) true mf1_6 33 [c1_8] = some zff1_6_0 := gff1_6_0
  obtain ⟨a1_8, e1_8, _, w1_8⟩ := DataW.trod_int Try.underlying33 gff1_6_0
  simp at e1_8; subst e1_8
  obtain ⟨zff1_6_1, gff1_6_1⟩ := ff1_6 1 _ rfl
  replace gff1_6_1 : DataW.trod enc Try.prog W 0 (fun _ => true) true mf1_6 33 [c1_9] = some zff1_6_1 := gff1_6_1
  obtain ⟨a1_9, e1_9, _, w1_9⟩ := DataW.trod_int Try.underlying33 gff1_6_1
  simp at e1_9; subst e1_9
  obtain ⟨zff1_6_2, gff1_6_2⟩ := ff1_6 2 _ rfl
  replace gff1_6_2 : DataW.trod enc Try.prog W 0 (fun _ => true) true mf1_6 33 [c1_10] = some zff1_6_2 := gff1_6_2
  obtain ⟨a1_10, e1_10, _, w1_10⟩ := DataW.trod_int Try.underlying33 gff1_6_2
  simp at e1_10; subst e1_10
  obtain ⟨zff1_6_3, gff1_6_3⟩ := ff1_6 3 _ rfl
  replace gff1_6_3 : DataW.trod enc Try.prog W 0 (fun _ => true) true mf1_6 33 [c1_11] = some zff1_6_3 := gff1_6_3
  obtain ⟨a1_11, e1_11, _, w1_11⟩ := DataW.trod_int Try.underlying33 gff1_6_3
  simp at e1_11; subst e1_11
  obtain ⟨zff1_6_4, gff1_6_4⟩ := ff1_6 4 _ rfl
  replace gff1_6_4 : DataW.trod enc Try.prog W 0 (fun _ => true) true mf1_6 33 [c1_12] = some zff1_6_4 := gff1_6_4
  obtain ⟨a1_12, e1_12, _, w1_12⟩ := DataW.trod_int Try.underlying33 gff1_6_4
  simp at e1_12; subst e1_12
  obtain ⟨zff1_6_5, gff1_6_5⟩ := ff1_6 5 _ rfl
  replace gff1_6_5 : DataW.trod enc Try.prog W 0 (fun _ => true) true mf1_6 33 [c1_13] = some zff1_6_5 := gff1_6_5
  obtain ⟨a1_13, e1_13, _, w1_13⟩ := DataW.trod_int Try.underlying33 gff1_6_5
  simp at e1_13; subst e1_13
  obtain ⟨zff1_6_6, gff1_6_6⟩ := ff1_6 6 _ rfl
  replace gff1_6_6 : DataW.trod enc Try.prog W 0 (fun _ => true) true mf1_6 33 [c1_14] = some zff1_6_6 := gff1_6_6
  obtain ⟨a1_14, e1_14, _, w1_14⟩ := DataW.trod_int Try.underlying33 gff1_6_6
  simp at e1_14; subst e1_14
  obtain ⟨zff1_6_7, gff1_6_7⟩ := ff1_6 7 _ rfl
  replace gff1_6_7 : DataW.trod enc Try.prog W 0 (fun _ => true) true mf1_6 33 [c1_15] = some zff1_6_7 := gff1_6_7
  obtain ⟨a1_15, e1_15, _, w1_15⟩ := DataW.trod_int Try.underlying33 gff1_6_7
  simp at e1_15; subst e1_15
  obtain ⟨zff1_6_8, gff1_6_8⟩ := ff1_6 8 _ rfl
  replace gff1_6_8 : DataW.trod enc Try.prog W 0 (fun _ => true) true mf1_6 33 [c1_16] = some zff1_6_8 := gff1_6_8
  obtain ⟨a1_16, e1_16, _, w1_16⟩ := DataW.trod_int Try.underlying33 gff1_6_8
  simp at e1_16; subst e1_16
  obtain ⟨zff1_6_9, gff1_6_9⟩ := ff1_6 9 _ rfl
  replace gff1_6_9 : DataW.trod enc Try.prog W 0 (fun _ => true) true mf1_6 33 [c1_17] = some zff1_6_9 := gff1_6_9
  obtain ⟨a1_17, e1_17, _, w1_17⟩ := DataW.trod_int Try.underlying33 gff1_6_9
  simp at e1_17; subst e1_17
  obtain ⟨zff1_6_10, gff1_6_10⟩ := ff1_6 10 _ rfl
  replace gff1_6_10 : DataW.trod enc Try.prog W 0 (fun _ => true) true mf1_6 33 [c1_18] = some zff1_6_10 := gff1_6_10
  obtain ⟨a1_18, e1_18, _, w1_18⟩ := DataW.trod_int Try.underlying33 gff1_6_10
  simp at e1_18; subst e1_18
  obtain ⟨zff1_6_11, gff1_6_11⟩ := ff1_6 11 _ rfl
  replace gff1_6_11 : DataW.trod enc Try.prog W 0 (fun _ => true) true mf1_6 33 [c1_19] = some zff1_6_11 := gff1_6_11
  obtain ⟨a1_19, e1_19, _, w1_19⟩ := DataW.trod_int Try.underlying33 gff1_6_11
  simp at e1_19; subst e1_19
  obtain ⟨zf1_7, gf1_7⟩ := f1 7 _ rfl
  replace gf1_7 : DataW.trod enc Try.prog W 0 (fun _ => true) true m1 3 [c1_20] = some zf1_7 := gf1_7
  obtain ⟨a1_20, e1_20, _, w1_20⟩ := DataW.trod_int Try.underlying3 gf1_7
  simp at e1_20; subst e1_20
  obtain ⟨zf1_8, gf1_8⟩ := f1 8 _ rfl
  replace gf1_8 : DataW.trod enc Try.prog W 0 (fun _ => true) true m1 3 [c1_21] = some zf1_8 := gf1_8
  obtain ⟨a1_21, e1_21, _, w1_21⟩ := DataW.trod_int Try.underlying3 gf1_8
  simp at e1_21; subst e1_21
  obtain ⟨zf1_9, gf1_9⟩ := f1 9 _ rfl
  replace gf1_9 : DataW.trod enc Try.prog W 0 (fun _ => true) true m1 38 [c1_22] = some zf1_9 := gf1_9
  obtain ⟨a1_22, e1_22, _, w1_22⟩ := DataW.trod_int Try.underlying38 gf1_9
  simp at e1_22; subst e1_22
  obtain ⟨zf1_10, gf1_10⟩ := f1 10 _ rfl
  replace gf1_10 : DataW.trod enc Try.prog W 0 (fun _ => true) true m1 33 [c1_23] = some zf1_10 := gf1_10
  obtain ⟨a1_23, e1_23, _, w1_23⟩ := DataW.trod_int Try.underlying33 gf1_10
  simp at e1_23; subst e1_23
  refine (walk W a0_0 w0_0 A0_1 n0_1 k0_1 mc0_1 cc0_1 el0_1 a1_0 w1_0 a1_1 w1_1 a1_2 w1_2 a1_3 w1_3 a1_4 w1_4 a1_5 a1_6 a1_7 a1_8 w1_8 a1_9 w1_9 a1_10 w1_10 a1_11 w1_11 a1_12 w1_12 a1_13 w1_13 a1_14 w1_14 a1_15 w1_15 a1_16 w1_16 a1_17 w1_17 a1_18 w1_18 a1_19 w1_19 a1_20 w1_20 a1_21 w1_21 a1_22 w1_22 a1_23 w1_23).mono fun e W' ⟨he, bel⟩ => ?_
  subst he
  exact ⟨_, rfl, _, _, _, [], _, [], hW', trodAll_mk1 (shut_bool Try.underlying4 _), (trodAll_cons_mk (Below.trod laidOut (by kernel_rfl) (of_decide_eq_true (by kernel_rfl)) k0 bel lt0) (trodAll_cons_mk (Below.trod laidOut (by kernel_rfl) (of_decide_eq_true (by kernel_rfl)) k1 bel lt1) trodAll_mk0)), rfl, bel.frame _, fun h => by cases h⟩

theorem over : Rows.tlbMissesRow.holds Try.pinned (OpenSpec.ofChange Rows.tlbMissesSpec) :=
  OpenClaim.holds_of_wide 4 Try.f4 rfl rfl rfl rfl rfl rfl rfl ⟨rfl, rfl, rfl, rfl, rfl⟩ rfl rfl rfl rfl rfl (by kernel_rfl) Try.func4 (by kernel_rfl)
    (of_decide_eq_true (by kernel_rfl)) (by unfold Func.isWrapper; first | (rw [if_pos (by decide +kernel)]; kernel_rfl) | (rw [if_neg (by decide +kernel)]; exact ⟨rfl, rfl⟩))
    (fun os started H enc _ => lifted os started H enc)

/-- The statement. -/
theorem proved : Rows.TlbMissesSaid := over
#print axioms proved

end Go.Proofs.Ytbjjcfocdngaoaa.tlbMisses
