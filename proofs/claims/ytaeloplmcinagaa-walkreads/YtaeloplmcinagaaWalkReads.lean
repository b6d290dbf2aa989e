/-
  Proved: for any memory and any access, the law WalkReads returns true: where a load faults no store is let by the same entry but for a fault of its own, what a store may a load may, and with both bits set more is let, to the same address.
  Conditions: none beyond the statement's own.
-/
import Derived.Test.YtaeloplmcinagaaRows
import Derived.Test.YtaeloplmcinagaaOpen
import Derived.Test.YtaeloplmcinagaaOpenT
import Derived.Lib.Hide
import Derived.Deep.Cut
import Derived.Test.YtaeloplmcinagaaWalkL
namespace Go.Proofs.Ytaeloplmcinagaa.walkReads
open Go Go.ChangeShapes Go.WideShapes Go.ChangeAt Go.RowKit W M D A C P K
set_option linter.unusedVariables false

set_option maxRecDepth 100000 in
set_option maxHeartbeats 8000000 in
theorem walk (w : World) (a0_0 : Int) (w0_0 : (Lit.int .u8 a0_0).wf = true) (A0_1 : Option Addr) (n0_1 k0_1 : Nat) (mc0_1 : n0_1 ≤ k0_1) (cc0_1 : k0_1 ≤ 9223372036854775807) (el0_1 : ∀ i, i < n0_1 → ∃ ad, A0_1 = some ad ∧ ad.block < w.heap.size ∧ ∃ (x0 : Int) (x1 : Int), (w.cell? (ad.add (i * 2 + 0)) = some (.int .u32 x0) ∧ (Lit.int .u32 x0).wf = true) ∧ (w.cell? (ad.add (i * 2 + 1)) = some (.int .u64 x1) ∧ (Lit.int .u64 x1).wf = true)) (a1_0 : Int) (w1_0 : (Lit.int .u64 a1_0).wf = true) (a1_1 : Int) (w1_1 : (Lit.int .u64 a1_1).wf = true) (a1_2 : Int) (w1_2 : (Lit.int .u64 a1_2).wf = true) (a1_3 : Int) (w1_3 : (Lit.int .u64 a1_3).wf = true) (a1_4 : Int) (w1_4 : (Lit.int .u64 a1_4).wf = true) (a1_5 : Int) (w1_5 : (Lit.int .u64 a1_5).wf = true) (a1_6 : Int) (w1_6 : (Lit.int .u64 a1_6).wf = true) (a1_7 : Int) (w1_7 : (Lit.int .u64 a1_7).wf = true) (a1_8 : Int) (w1_8 : (Lit.int .u64 a1_8).wf = true) (a1_9 : Int) (w1_9 : (Lit.int .u64 a1_9).wf = true) (a1_10 : Int) (w1_10 : (Lit.int .u64 a1_10).wf = true) (a1_11 : Int) (w1_11 : (Lit.int .u64 a1_11).wf = true) (a1_12 : Int) (w1_12 : (Lit.int .i64 a1_12).wf = true) (a1_13 : Int) (w1_13 : (Lit.int .i64 a1_13).wf = true) (a1_14 : Int) (w1_14 : (Lit.int .u64 a1_14).wf = true) :
    Calls Try.prog 6 #[.agg #[.int .u8 a0_0, .slice A0_1 n0_1 k0_1], .agg #[.int .u64 a1_0, .int .u64 a1_1, .int .u64 a1_2, .int .u64 a1_3, .int .u64 a1_4, .int .u64 a1_5, .int .u64 a1_6, .int .u64 a1_7, .int .u64 a1_8, .int .u64 a1_9, .int .u64 a1_10, .int .u64 a1_11, .int .i64 a1_12, .int .i64 a1_13, .int .u64 a1_14]] w fun e w' => e = .returned (.bool true) ∧ Below w.heap.size w w' := by
  have ha : 0 ≤ a0_0 ∧ a0_0 ≤ 255 := bounds_u8 w0_0
  have h0 : B64 a1_0 := bounds_u64 w1_0
  have h1 : B64 a1_1 := bounds_u64 w1_1
  have h2 : B64 a1_2 := bounds_u64 w1_2
  have h3 : B64 a1_3 := bounds_u64 w1_3
  have h4 : B64 a1_4 := bounds_u64 w1_4
  have h5 : B64 a1_5 := bounds_u64 w1_5
  have h6 : B64 a1_6 := bounds_u64 w1_6
  have h7 : B64 a1_7 := bounds_u64 w1_7
  have h8 : B64 a1_8 := bounds_u64 w1_8
  have h9 : B64 a1_9 := bounds_u64 w1_9
  have h10 : B64 a1_10 := bounds_u64 w1_10
  have h11 : B64 a1_11 := bounds_u64 w1_11
  have hp : I64 a1_12 := bounds_i64 w1_12
  have hk : I64 a1_13 := bounds_i64 w1_13
  have hv : B64 a1_14 := bounds_u64 w1_14
  have hc : C.Good [a1_0, a1_1, a1_2, a1_3, a1_4, a1_5, a1_6, a1_7, a1_8, a1_9, a1_10, a1_11] := good12 h0 h1 h2 h3 h4 h5 h6 h7 h8 h9 h10 h11
  have HH0 := Lib.hid h0
  have HH9 := Lib.hid h9
  obtain ⟨f, h, hE⟩ := elems_of el0_1
  obtain ⟨bs, hbs⟩ : ∃ bs, bs = fillV f h (min n0_1 64) (List.replicate ((1 + a0_0 % 16).toNat * 4096) 0) := ⟨_, rfl⟩
  have BT := Lib.hid (fun W hW => both_c a0_0 ha A0_1 n0_1 k0_1 mc0_1 cc0_1 f h W hW)
  rw [← hbs] at BT
  have HE := Lib.hid hE
  clear w0_0 w1_0 w1_1 w1_2 w1_3 w1_4 w1_5 w1_6 w1_7 w1_8 w1_9 w1_10 w1_11 w1_12 w1_13 w1_14 el0_1 hE h0 h1 h2 h3 h4 h5 h6 h7 h8 h9 h10 h11
  have h0 := HH0.out
  obtain ⟨e1, e2, e3, e4⟩ := moreS_all a1_0 h0
  have hc2 : C.Good [moreS a1_0, a1_1, a1_2, a1_3, a1_4, a1_5, a1_6, a1_7, a1_8, a1_9, a1_10, a1_11] := good12 e2 (hc.get 1) (hc.get 2) (hc.get 3) (hc.get 4) (hc.get 5) (hc.get 6) (hc.get 7) (hc.get 8) (hc.get 9) (hc.get 10) (hc.get 11)
  obtain ⟨R1, hR1⟩ : ∃ R, R = walkV bs (gC [a1_0, a1_1, a1_2, a1_3, a1_4, a1_5, a1_6, a1_7, a1_8, a1_9, a1_10, a1_11] 9) (gC [a1_0, a1_1, a1_2, a1_3, a1_4, a1_5, a1_6, a1_7, a1_8, a1_9, a1_10, a1_11] 0) a1_12 1 a1_14 := ⟨_, rfl⟩
  obtain ⟨R2, hR2⟩ : ∃ R, R = walkV bs (gC [a1_0, a1_1, a1_2, a1_3, a1_4, a1_5, a1_6, a1_7, a1_8, a1_9, a1_10, a1_11] 9) (gC [a1_0, a1_1, a1_2, a1_3, a1_4, a1_5, a1_6, a1_7, a1_8, a1_9, a1_10, a1_11] 0) a1_12 2 a1_14 := ⟨_, rfl⟩
  obtain ⟨R3, hR3⟩ : ∃ R, R = walkV bs (gC [moreS a1_0, a1_1, a1_2, a1_3, a1_4, a1_5, a1_6, a1_7, a1_8, a1_9, a1_10, a1_11] 9) (gC [moreS a1_0, a1_1, a1_2, a1_3, a1_4, a1_5, a1_6, a1_7, a1_8, a1_9, a1_10, a1_11] 0) a1_12 1 a1_14 := ⟨_, rfl⟩
  obtain ⟨x1, hx1⟩ : ∃ x, x = toV bs (gC [a1_0, a1_1, a1_2, a1_3, a1_4, a1_5, a1_6, a1_7, a1_8, a1_9, a1_10, a1_11] 9) (gC [a1_0, a1_1, a1_2, a1_3, a1_4, a1_5, a1_6, a1_7, a1_8, a1_9, a1_10, a1_11] 0) a1_12 1 a1_14 := ⟨_, rfl⟩
  obtain ⟨x2, hx2⟩ : ∃ x, x = toV bs (gC [a1_0, a1_1, a1_2, a1_3, a1_4, a1_5, a1_6, a1_7, a1_8, a1_9, a1_10, a1_11] 9) (gC [a1_0, a1_1, a1_2, a1_3, a1_4, a1_5, a1_6, a1_7, a1_8, a1_9, a1_10, a1_11] 0) a1_12 2 a1_14 := ⟨_, rfl⟩
  obtain ⟨x3, hx3⟩ : ∃ x, x = toV bs (gC [moreS a1_0, a1_1, a1_2, a1_3, a1_4, a1_5, a1_6, a1_7, a1_8, a1_9, a1_10, a1_11] 9) (gC [moreS a1_0, a1_1, a1_2, a1_3, a1_4, a1_5, a1_6, a1_7, a1_8, a1_9, a1_10, a1_11] 0) a1_12 1 a1_14 := ⟨_, rfl⟩
  have T1 := Lib.hid (fun (p g : Nat) W hW => to_at (p := p) (g := g) hc hp (by unfold I64; omega) hv hR1 hx1 W hW)
  have T2 := Lib.hid (fun (p g : Nat) W hW => to_at (p := p) (g := g) hc hp (by unfold I64; omega) hv hR2 hx2 W hW)
  have T3 := Lib.hid (fun (p g : Nat) W hW => to_at (p := p) (g := g) hc2 hp (by unfold I64; omega) hv hR3 hx3 W hW)
  have S12 : R2.isf = false → R1.isf = false ∧ x1 = x2 := fun hf => by
    have hw := walk_mono (bs := bs) (sa := gC [a1_0, a1_1, a1_2, a1_3, a1_4, a1_5, a1_6, a1_7, a1_8, a1_9, a1_10, a1_11] 9) (va := a1_14) (k1 := 2) (k2 := 1) (p := a1_12) (s1 := gC [a1_0, a1_1, a1_2, a1_3, a1_4, a1_5, a1_6, a1_7, a1_8, a1_9, a1_10, a1_11] 0) (s2 := gC [a1_0, a1_1, a1_2, a1_3, a1_4, a1_5, a1_6, a1_7, a1_8, a1_9, a1_10, a1_11] 0) (fun e he => store_load he) (by rw [← hR2]; exact hf)
    exact ⟨by rw [hR1, hw, ← hR2]; exact hf, by rw [hx1, hx2]; exact to_same hw⟩
  have S13 : R1.isf = false → R3.isf = false ∧ x1 = x3 := fun hf => by
    have hw : walkV bs (gC [moreS a1_0, a1_1, a1_2, a1_3, a1_4, a1_5, a1_6, a1_7, a1_8, a1_9, a1_10, a1_11] 9) (gC [moreS a1_0, a1_1, a1_2, a1_3, a1_4, a1_5, a1_6, a1_7, a1_8, a1_9, a1_10, a1_11] 0) a1_12 1 a1_14 = walkV bs (gC [a1_0, a1_1, a1_2, a1_3, a1_4, a1_5, a1_6, a1_7, a1_8, a1_9, a1_10, a1_11] 9) (gC [a1_0, a1_1, a1_2, a1_3, a1_4, a1_5, a1_6, a1_7, a1_8, a1_9, a1_10, a1_11] 0) a1_12 1 a1_14 :=
      walk_mono (bs := bs) (sa := gC [a1_0, a1_1, a1_2, a1_3, a1_4, a1_5, a1_6, a1_7, a1_8, a1_9, a1_10, a1_11] 9) (va := a1_14) (k1 := 1) (k2 := 1) (p := a1_12) (s1 := gC [a1_0, a1_1, a1_2, a1_3, a1_4, a1_5, a1_6, a1_7, a1_8, a1_9, a1_10, a1_11] 0) (s2 := moreS a1_0) (fun e he => more_any he e3 e4) (by rw [← hR1]; exact hf)
    exact ⟨by rw [hR3, hw, ← hR1]; exact hf, by rw [hx1, hx3]; exact (to_same (sa := gC [a1_0, a1_1, a1_2, a1_3, a1_4, a1_5, a1_6, a1_7, a1_8, a1_9, a1_10, a1_11] 9) hw).symm⟩
  have F1 : R1.isf = true → R1.cause = 13 ∨ R1.cause = 5 := fun hf => by rw [hR1] at hf ⊢; exact (walk_of _ _ _ _ _ _ hf).1
  have F2 : R2.isf = true → R2.cause = 15 ∨ R2.cause = 7 := fun hf => by rw [hR2] at hf ⊢; exact (walk_of _ _ _ _ _ _ hf).1
  rw [show vC [a1_0, a1_1, a1_2, a1_3, a1_4, a1_5, a1_6, a1_7, a1_8, a1_9, a1_10, a1_11] = .agg #[.int .u64 a1_0, .int .u64 a1_1, .int .u64 a1_2, .int .u64 a1_3, .int .u64 a1_4, .int .u64 a1_5, .int .u64 a1_6, .int .u64 a1_7, .int .u64 a1_8, .int .u64 a1_9, .int .u64 a1_10, .int .u64 a1_11] from rfl] at T1 T2
  rw [show vC [moreS a1_0, a1_1, a1_2, a1_3, a1_4, a1_5, a1_6, a1_7, a1_8, a1_9, a1_10, a1_11] = .agg #[.int .u64 (moreS a1_0), .int .u64 a1_1, .int .u64 a1_2, .int .u64 a1_3, .int .u64 a1_4, .int .u64 a1_5, .int .u64 a1_6, .int .u64 a1_7, .int .u64 a1_8, .int .u64 a1_9, .int .u64 a1_10, .int .u64 a1_11] from rfl] at T3
  have HS12 := Lib.hid S12
  have HS13 := Lib.hid S13
  have HF1 := Lib.hid F1
  have HF2 := Lib.hid F2
  clear hc hc2 hR1 hR2 hR3 hx1 hx2 hx3 S12 S13 F1 F2 e2 e3 e4 hbs
  unfold B64 at h0 e1
  have HR0 := Lib.hid ((Row.fresh w 24 [.int .u8 a0_0, .slice A0_1 n0_1 k0_1]).alloc (.cells #[.int .u64 a1_0, .int .u64 a1_1, .int .u64 a1_2, .int .u64 a1_3, .int .u64 a1_4, .int .u64 a1_5, .int .u64 a1_6, .int .u64 a1_7, .int .u64 a1_8, .int .u64 a1_9, .int .u64 a1_10, .int .u64 a1_11, .int .i64 a1_12, .int .i64 a1_13, .int .u64 a1_14] 29))
  have HT0 := Lib.hid (Row.fresh (w.alloc (.cells #[.int .u8 a0_0, .slice A0_1 n0_1 k0_1] 24)) 29 [.int .u64 a1_0, .int .u64 a1_1, .int .u64 a1_2, .int .u64 a1_3, .int .u64 a1_4, .int .u64 a1_5, .int .u64 a1_6, .int .u64 a1_7, .int .u64 a1_8, .int .u64 a1_9, .int .u64 a1_10, .int .u64 a1_11, .int .i64 a1_12, .int .i64 a1_13, .int .u64 a1_14])
  rw [show (w.alloc (.cells #[.int .u8 a0_0, .slice A0_1 n0_1 k0_1] 24)).heap.size = w.heap.size + 1 from Array.size_push ..] at HT0
  have HG0 := Lib.hid (gr_alloc (gr_alloc (gr_refl w none) (.cells #[.int .u8 a0_0, .slice A0_1 n0_1 k0_1] 24)) (.cells #[.int .u64 a1_0, .int .u64 a1_1, .int .u64 a1_2, .int .u64 a1_3, .int .u64 a1_4, .int .u64 a1_5, .int .u64 a1_6, .int .u64 a1_7, .int .u64 a1_8, .int .u64 a1_9, .int .u64 a1_10, .int .u64 a1_11, .int .i64 a1_12, .int .i64 a1_13, .int .u64 a1_14] 29))
  unfold I64 at hp hk
  unfold B64 at hv
  go_enter Try.func6, Try.ntmps6
  go_wp2_with fail
  generalize (w.alloc (.cells #[.int .u8 a0_0, .slice A0_1 n0_1 k0_1] 24)).alloc (.cells #[.int .u64 a1_0, .int .u64 a1_1, .int .u64 a1_2, .int .u64 a1_3, .int .u64 a1_4, .int .u64 a1_5, .int .u64 a1_6, .int .u64 a1_7, .int .u64 a1_8, .int .u64 a1_9, .int .u64 a1_10, .int .u64 a1_11, .int .i64 a1_12, .int .i64 a1_13, .int .u64 a1_14] 29) = V at *
  refine (shown11_c _).mono ?_
  rintro e w1 ⟨rfl, hG⟩
  have hR1 := HR0.out.grown hG (by simp)
  have hT1 := HT0.out.grown hG (by simp)
  have hG1 := gr_trans HG0.out hG
  have hE1 := (HE.out.turn (w' := w1) (fun ad had => cell_grown hG1 had (by simp))).more hG1.size
  clear HR0 HT0 HG0 HE hG
  obtain ⟨b, hb⟩ : ∃ b, b = w.heap.size := ⟨_, rfl⟩
  rw [← hb] at hR1 hT1 ⊢
  have HB := Lib.hid hb
  clear hb
  have m0 : w1.cell? ⟨b, 0, none⟩ = some (.int .u8 a0_0) := hR1.cell 0
  have m1 : w1.cell? ⟨b, 1, none⟩ = some (.slice A0_1 n0_1 k0_1) := hR1.cell 1
  have lt := hR1.lt
  clear hR1
  go_wp2_with fail
  refine (BT.out _ hE1).mono ?_
  rintro e w2 ⟨p, g, p', g', rfl, hA, hQ, hG⟩
  have hL : Lw w (b + 1) p g p' g' bs [.int .u64 a1_0, .int .u64 a1_1, .int .u64 a1_2, .int .u64 a1_3, .int .u64 a1_4, .int .u64 a1_5, .int .u64 a1_6, .int .u64 a1_7, .int .u64 a1_8, .int .u64 a1_9, .int .u64 a1_10, .int .u64 a1_11, .int .i64 a1_12, .int .i64 a1_13, .int .u64 a1_14] w2 := ⟨hT1.grown hG (by simp), hA, hQ, gr_trans hG1 hG⟩
  clear hT1 hA hQ hG hG1 hE1 m0 m1 lt BT
  generalize b + 1 = t at *
  obtain ⟨k0, k1, k2, k3, k4, k5, k6, k7, k8, k9, k10, k11, k12, k13, k14⟩ := cells15 hL.tr
  have lt := hL.tr.lt
  have HL := Lib.hid hL
  clear hL
  go_wp2_with fail
  refine (T1.out _ _ _ HL.out.one).mono ?_
  rintro e u1 ⟨rfl, hG⟩
  have hG' := gr_alloc hG (.cells #[.bool R1.isf, .int .i64 R1.cause, .int .u64 R1.val] 38)
  have hL1 := HL.out.keep hG'
  have q1r := new3 u1 38 (.bool R1.isf) (.int .i64 R1.cause) (.int .u64 R1.val)
  clear hG hG' HL lt k0 k1 k2 k3 k4 k5 k6 k7 k8 k9 k10 k11 k12 k13 k14
  go_upto_region 6 with (fail)
  generalize u1.alloc (.cells #[.bool R1.isf, .int .i64 R1.cause, .int .u64 R1.val] 38) = U1 at *
  generalize u1.heap.size = q1 at *
  obtain ⟨k0, k1, k2, k3, k4, k5, k6, k7, k8, k9, k10, k11, k12, k13, k14⟩ := cells15 hL1.tr
  have lt := hL1.tr.lt
  have HL := Lib.hid hL1
  clear hL1
  go_wp2_with fail
  refine (T2.out _ _ _ HL.out.one).mono ?_
  rintro e u2 ⟨rfl, hG⟩
  have hG' := gr_alloc hG (.cells #[.bool R2.isf, .int .i64 R2.cause, .int .u64 R2.val] 38)
  have hL2 := HL.out.keep hG'
  have q2r := new3 u2 38 (.bool R2.isf) (.int .i64 R2.cause) (.int .u64 R2.val)
  have q1r := q1r.grown hG' (by simp)
  clear hG hG' HL lt k0 k1 k2 k3 k4 k5 k6 k7 k8 k9 k10 k11 k12 k13 k14
  go_upto_region 7 with (fail)
  generalize u2.alloc (.cells #[.bool R2.isf, .int .i64 R2.cause, .int .u64 R2.val] 38) = U2 at *
  generalize u2.heap.size = q2 at *
  obtain ⟨k0, k1, k2, k3, k4, k5, k6, k7, k8, k9, k10, k11, k12, k13, k14⟩ := cells15 hL2.tr
  have lt := hL2.tr.lt
  go_upto_region 8 with (fail)
  have hG := gr_row (gr_set (i := 0) (gr_none (gr_alloc (gr_refl U2 none) (.cells #[.int .u64 a1_0, .int .u64 a1_1, .int .u64 a1_2, .int .u64 a1_3, .int .u64 a1_4, .int .u64 a1_5, .int .u64 a1_6, .int .u64 a1_7, .int .u64 a1_8, .int .u64 a1_9, .int .u64 a1_10, .int .u64 a1_11] 27)) _) (.int .u64 (bits .or .u64 (bits .or .u64 a1_0 262144) 524288))) (Nat.le_refl _)
  have hL4 := Lib.hid (hL2.keep hG)
  have cr := Row.fresh U2 27 [.int .u64 a1_0, .int .u64 a1_1, .int .u64 a1_2, .int .u64 a1_3, .int .u64 a1_4, .int .u64 a1_5, .int .u64 a1_6, .int .u64 a1_7, .int .u64 a1_8, .int .u64 a1_9, .int .u64 a1_10, .int .u64 a1_11]
  have cr4 := Lib.hid (cr.put 0 (.int .u64 (bits .or .u64 (bits .or .u64 a1_0 262144) 524288)))
  have q1r := q1r.grown hG (by simp)
  have q2r := q2r.grown hG (by simp)
  clear hG lt hL2 k0 k1 k2 k3 k4 k5 k6 k7 k8 k9 k10 k11 k12 k13 k14
  replace cr : Row (U2.alloc (.cells #[.int .u64 a1_0, .int .u64 a1_1, .int .u64 a1_2, .int .u64 a1_3, .int .u64 a1_4, .int .u64 a1_5, .int .u64 a1_6, .int .u64 a1_7, .int .u64 a1_8, .int .u64 a1_9, .int .u64 a1_10, .int .u64 a1_11] 27)) U2.heap.size 27 [.int .u64 a1_0, .int .u64 a1_1, .int .u64 a1_2, .int .u64 a1_3, .int .u64 a1_4, .int .u64 a1_5, .int .u64 a1_6, .int .u64 a1_7, .int .u64 a1_8, .int .u64 a1_9, .int .u64 a1_10, .int .u64 a1_11] := cr
  replace cr4 : Hid (Row ((U2.alloc (.cells #[.int .u64 a1_0, .int .u64 a1_1, .int .u64 a1_2, .int .u64 a1_3, .int .u64 a1_4, .int .u64 a1_5, .int .u64 a1_6, .int .u64 a1_7, .int .u64 a1_8, .int .u64 a1_9, .int .u64 a1_10, .int .u64 a1_11] 27)).setCell ⟨U2.heap.size, 0, none⟩ (.int .u64 (bits .or .u64 (bits .or .u64 a1_0 262144) 524288))) U2.heap.size 27 [.int .u64 (moreS a1_0), .int .u64 a1_1, .int .u64 a1_2, .int .u64 a1_3, .int .u64 a1_4, .int .u64 a1_5, .int .u64 a1_6, .int .u64 a1_7, .int .u64 a1_8, .int .u64 a1_9, .int .u64 a1_10, .int .u64 a1_11]) := cr4
  generalize U2.alloc (.cells #[.int .u64 a1_0, .int .u64 a1_1, .int .u64 a1_2, .int .u64 a1_3, .int .u64 a1_4, .int .u64 a1_5, .int .u64 a1_6, .int .u64 a1_7, .int .u64 a1_8, .int .u64 a1_9, .int .u64 a1_10, .int .u64 a1_11] 27) = U3 at *
  generalize U2.heap.size = qc at *
  have m0 : U3.cell? ⟨qc, 0, none⟩ = some (.int .u64 a1_0) := cr.cell 0
  have mf := cr.free 0
  have mlt := cr.lt
  clear cr
  go_upto_region 9 with (fail)
  clear m0 mf mlt
  generalize U3.setCell ⟨qc, 0, none⟩ (.int .u64 (bits .or .u64 (bits .or .u64 a1_0 262144) 524288)) = U4 at *
  have c0 : U4.cell? ⟨qc, 0, none⟩ = some (.int .u64 (moreS a1_0)) := cr4.out.cell 0
  have c1 : U4.cell? ⟨qc, 1, none⟩ = some (.int .u64 a1_1) := cr4.out.cell 1
  have c2 : U4.cell? ⟨qc, 2, none⟩ = some (.int .u64 a1_2) := cr4.out.cell 2
  have c3 : U4.cell? ⟨qc, 3, none⟩ = some (.int .u64 a1_3) := cr4.out.cell 3
  have c4 : U4.cell? ⟨qc, 4, none⟩ = some (.int .u64 a1_4) := cr4.out.cell 4
  have c5 : U4.cell? ⟨qc, 5, none⟩ = some (.int .u64 a1_5) := cr4.out.cell 5
  have c6 : U4.cell? ⟨qc, 6, none⟩ = some (.int .u64 a1_6) := cr4.out.cell 6
  have c7 : U4.cell? ⟨qc, 7, none⟩ = some (.int .u64 a1_7) := cr4.out.cell 7
  have c8 : U4.cell? ⟨qc, 8, none⟩ = some (.int .u64 a1_8) := cr4.out.cell 8
  have c9 : U4.cell? ⟨qc, 9, none⟩ = some (.int .u64 a1_9) := cr4.out.cell 9
  have c10 : U4.cell? ⟨qc, 10, none⟩ = some (.int .u64 a1_10) := cr4.out.cell 10
  have c11 : U4.cell? ⟨qc, 11, none⟩ = some (.int .u64 a1_11) := cr4.out.cell 11
  have clt := cr4.out.lt
  have hL := hL4.out
  clear cr4 hL4
  obtain ⟨k0, k1, k2, k3, k4, k5, k6, k7, k8, k9, k10, k11, k12, k13, k14⟩ := cells15 hL.tr
  have lt := hL.tr.lt
  have HL := Lib.hid hL
  clear hL
  go_wp2_with fail
  refine (T3.out _ _ _ HL.out.one).mono ?_
  rintro e u3 ⟨rfl, hG⟩
  have hG' := gr_alloc hG (.cells #[.bool R3.isf, .int .i64 R3.cause, .int .u64 R3.val] 38)
  have hL3 := HL.out.keep hG'
  have q3r := new3 u3 38 (.bool R3.isf) (.int .i64 R3.cause) (.int .u64 R3.val)
  have q1r := q1r.grown hG' (by simp)
  have q2r := q2r.grown hG' (by simp)
  clear c0 c1 c2 c3 c4 c5 c6 c7 c8 c9 c10 c11 clt hG hG' HL lt k0 k1 k2 k3 k4 k5 k6 k7 k8 k9 k10 k11 k12 k13 k14
  go_upto_region 10 with (fail)
  generalize u3.alloc (.cells #[.bool R3.isf, .int .i64 R3.cause, .int .u64 R3.val] 38) = U3' at *
  generalize u3.heap.size = q3 at *
  have i1 : U3'.cell? ⟨q1, 0, none⟩ = some (.bool R1.isf) := q1r.cell 0
  have i2 : U3'.cell? ⟨q2, 0, none⟩ = some (.bool R2.isf) := q2r.cell 0
  have i3 : U3'.cell? ⟨q3, 0, none⟩ = some (.bool R3.isf) := q3r.cell 0
  have j1 : U3'.cell? ⟨q1, 1, none⟩ = some (.int .i64 R1.cause) := q1r.cell 1
  have j2 : U3'.cell? ⟨q2, 1, none⟩ = some (.int .i64 R2.cause) := q2r.cell 1
  have l1 := q1r.lt
  have l2 := q2r.lt
  have l3 := q3r.lt
  have HGR := Lib.hid (gr_below hL3.gr)
  clear q1r q2r q3r hL3
  have s12 := HS12.out
  have s13 := HS13.out
  have f1 := HF1.out
  have f2 := HF2.out
  generalize R1.isf = b1 at *
  generalize R2.isf = b2 at *
  generalize R3.isf = b3 at *
  generalize R1.cause = y1 at *
  generalize R2.cause = y2 at *
  clear T1 T2 T3 HS12 HS13 HF1 HF2
  cases b2
  · obtain ⟨rfl, rfl⟩ := s12 rfl
    obtain ⟨rfl, rfl⟩ := s13 rfl
    clear s12 s13 f1 f2
    go_wp2_with fail
    go_ret
    exact ⟨rfl, HGR.out⟩
  · have f2 := f2 rfl
    cases b1
    · obtain ⟨rfl, rfl⟩ := s13 rfl
      clear s12 s13 f1
      rcases f2 with rfl | rfl
      all_goals
        go_wp2_with fail
        go_ret
        exact ⟨rfl, HGR.out⟩
    · have f1 := f1 rfl
      clear s12 s13
      rcases f1 with rfl | rfl <;> rcases f2 with rfl | rfl
      all_goals
        go_wp2_with fail
        go_ret
        exact ⟨rfl, HGR.out⟩

theorem own : ownKnob Try.prog.godebug = none := by kernel_rfl
theorem laidOut : laidOutB Try.prog = true := by kernel_rfl

set_option maxRecDepth 100000 in
theorem lifted (os : Os) (started : os.Started) (H : Type) (enc : TypeId × Value → H) :
    ReturnsInHanded {} Try.checked os 6 .any (Rows.walkReadsSpec.pre6 enc Try.prog Try.f6 Rows.walkReadsRow.domain false) (Rows.walkReadsSpec.post enc Try.prog Try.f6 false true false false) := by
  refine returnsInHanded_of_change (C := Try.checked) own started (by kernel_rfl) Try.func6
    (ChangeSpec.witness6 (enc := enc) (C := Try.checked) false ⟨#[], #[.agg #[.int .u8 0, .slice none 0 0], .agg #[.int .u64 0, .int .u64 0, .int .u64 0, .int .u64 0, .int .u64 0, .int .u64 0, .int .u64 0, .int .u64 0, .int .u64 0, .int .u64 0, .int .u64 0, .int .u64 0, .int .i64 0, .int .i64 0, .int .u64 0]], []⟩ 8 (by kernel_rfl) (by kernel_rfl) (by kernel_rfl) (by kernel_rfl)) ?_
  intro W base args ds gs before hval0 hW hcnd _
  have hval : ∀ (j : Nat) t v, Try.f6.params[j]? = some t → args[j]? = some v → Value.okWide Try.prog W .any base t v := hval0
  have hW' := hW
  obtain ⟨p, q, hA0, hV, rfl, hfz, hnd⟩ := hW
  have hA : DataW.TrodAll enc Try.prog W 0 (fun _ => true) true Try.f6.params.toList args.toList ds p := hA0
  rw [Try.params6] at hA hval
  obtain ⟨v0, vs0, d0, ds0, p0, q0, hargs, rfl, rfl, h0, r0⟩ := trodAll_cons hA
  obtain ⟨v1, vs1, d1, ds1, p1, q1, rfl, rfl, rfl, h1, r1⟩ := trodAll_cons r0
  obtain ⟨rfl, rfl, rfl⟩ := trodAll_nil r1
  obtain rfl : args = #[v0, v1] := by cases args; simp_all
  obtain ⟨rfl, rfl⟩ := trodVars_none hV
  clear hA0 hval0 hA
  have k0 := h0
  have lt0 : ∀ x ∈ p0, x.block < W.heap.size := by obtain ⟨m, hm⟩ := k0; exact DataW.trod_lt m _ _ _ hm
  obtain ⟨xs0, rfl, l0, m0, f0⟩ := Op.open_struct Try.underlying24 (hval 0 24 v0 rfl rfl) h0
  rw [show Try.prog.cellsOf 24 = 2 from by kernel_rfl] at l0
  obtain _ | ⟨c0_0, xs0⟩ := xs0
  · simp at l0
  obtain _ | ⟨c0_1, xs0⟩ := xs0
  · simp at l0
  obtain _ | ⟨_, _⟩ := xs0
  rotate_left
  · simp at l0
  clear h0
  obtain ⟨zf0_0, gf0_0⟩ := f0 0 _ rfl
  replace gf0_0 : DataW.trod enc Try.prog W 0 (fun _ => true) true m0 5 [c0_0] = some zf0_0 := gf0_0
  obtain ⟨a0_0, e0_0, _, w0_0⟩ := DataW.trod_int Try.underlying5 gf0_0
  simp at e0_0; subst e0_0
  obtain ⟨zf0_1, gf0_1⟩ := f0 1 _ rfl
  replace gf0_1 : DataW.trod enc Try.prog W 0 (fun _ => true) true m0 22 [c0_1] = some zf0_1 := gf0_1
  obtain ⟨A0_1, n0_1, k0_1, e0_1, mc0_1, cc0_1, raw0_1⟩ := Op.read_items Try.underlying22 Try.underlying71 (by kernel_rfl) (by kernel_rfl) (by decide) gf0_1
  subst e0_1
  have el0_1 : ∀ i, i < n0_1 → ∃ ad, A0_1 = some ad ∧ ad.block < W.heap.size ∧ ∃ (x0 : Int) (x1 : Int), (W.cell? (ad.add (i * 2 + 0)) = some (.int .u32 x0) ∧ (Lit.int .u32 x0).wf = true) ∧ (W.cell? (ad.add (i * 2 + 1)) = some (.int .u64 x1) ∧ (Lit.int .u64 x1).wf = true) := by
    intro i hi
    obtain ⟨ad, hA, hb, n, hf⟩ := raw0_1 i hi
    obtain ⟨u0, yy0, hu0, ht0⟩ := hf 0 _ rfl
    obtain ⟨x0, ee0, _, ww0⟩ := DataW.trod_int Try.underlying69 ht0; simp only [List.cons.injEq, and_true] at ee0; subst ee0
    obtain ⟨u1, yy1, hu1, ht1⟩ := hf 1 _ rfl
    obtain ⟨x1, ee1, _, ww1⟩ := DataW.trod_int Try.underlying25 ht1; simp only [List.cons.injEq, and_true] at ee1; subst ee1
    exact ⟨ad, hA, hb, x0, x1, ⟨hu0, ww0⟩, ⟨hu1, ww1⟩⟩
  have k1 := h1
  have lt1 : ∀ x ∈ p1, x.block < W.heap.size := by obtain ⟨m, hm⟩ := k1; exact DataW.trod_lt m _ _ _ hm
  obtain ⟨xs1, rfl, l1, m1, f1⟩ := Op.open_struct Try.underlying29 (hval 1 29 v1 rfl rfl) h1
  rw [show Try.prog.cellsOf 29 = 15 from by kernel_rfl] at l1
  obtain _ | ⟨c1_0, xs1⟩ := xs1
  · simp at l1
  obtain _ | ⟨c1_1, xs1⟩ := xs1
  · simp at l1
  obtain _ | ⟨c1_2, xs1⟩ := xs1
  · simp at l1
  obtain _ | ⟨c1_3, xs1⟩ := xs1
  · simp at l1
  obtain _ | ⟨c1_4, xs1⟩ := xs1
  · simp at l1
  obtain _ | ⟨c1_5, xs1⟩ := xs1
  · simp at l1
  obtain _ | ⟨c1_6, xs1⟩ := xs1
  · simp at l1
  obtain _ | ⟨c1_7, xs1⟩ := xs1
  · simp at l1
  obtain _ | ⟨c1_8, xs1⟩ := xs1
  · simp at l1
  obtain _ | ⟨c1_9, xs1⟩ := xs1
  · simp at l1
  obtain _ | ⟨c1_10, xs1⟩ := xs1
  · simp at l1
  obtain _ | ⟨c1_11, xs1⟩ := xs1
  · simp at l1
  obtain _ | ⟨c1_12, xs1⟩ := xs1
  · simp at l1
  obtain _ | ⟨c1_13, xs1⟩ := xs1
  · simp at l1
  obtain _ | ⟨c1_14, xs1⟩ := xs1
  · simp at l1
  obtain _ | ⟨_, _⟩ := xs1
  rotate_left
  · simp at l1
  clear h1
  obtain ⟨zf1_0, gf1_0⟩ := f1 0 _ rfl
  replace gf1_0 : DataW.trod enc Try.prog W 0 (fun _ => true) true m1 27 [c1_0, c1_1, c1_2, c1_3, c1_4, c1_5, c1_6, c1_7, c1_8, c1_9, c1_10, c1_11] = some zf1_0 := gf1_0
  obtain ⟨mf1_0, ff1_0⟩ := Op.read_struct Try.underlying27 gf1_0
  obtain ⟨zff1_0_0, gff1_0_0⟩ := ff1_0 0 _ rfl
  replace gff1_0_0 : DataW.trod enc Try.prog W 0 (fun _ => true) true mf1_0 25 [c1_0] = some zff1_0_0 := gff1_0_0
  obtain ⟨a1_0, e1_0, _, w1_0⟩ := DataW.trod_int Try.underlying25 gff1_0_0
  simp at e1_0; subst e1_0
  obtain ⟨zff1_0_1, gff1_0_1⟩ := ff1_0 1 _ rfl
  replace gff1_0_1 : DataW.trod enc Try.prog W 0 (fun _ => true) true mf1_0 25 [c1_1] = some zff1_0_1 := gff1_0_1
  obtain ⟨a1_1, e1_1, _, w1_1⟩ := DataW.trod_int Try.underlying25 gff1_0_1
  simp at e1_1; subst e1_1
  obtain ⟨zff1_0_2, gff1_0_2⟩ := ff1_0 2 _ rfl
  replace gff1_0_2 : DataW.trod enc Try.prog W 0 (fun _ => true) true mf1_0 25 [c1_2] = some zff1_0_2 := gff1_0_2
  obtain ⟨a1_2, e1_2, _, w1_2⟩ := DataW.trod_int Try.underlying25 gff1_0_2
  simp at e1_2; subst e1_2
  obtain ⟨zff1_0_3, gff1_0_3⟩ := ff1_0 3 _ rfl
  replace gff1_0_3 : DataW.trod enc Try.prog W 0 (fun _ => true) true mf1_0 25 [c1_3] = some zff1_0_3 := gff1_0_3
  obtain ⟨a1_3, e1_3, _, w1_3⟩ := DataW.trod_int Try.underlying25 gff1_0_3
  simp at e1_3; subst e1_3
  obtain ⟨zff1_0_4, gff1_0_4⟩ := ff1_0 4 _ rfl
  replace gff1_0_4 : DataW.trod enc Try.prog W 0 (fun _ => true) true mf1_0 25 [c1_4] = some zff1_0_4 := gff1_0_4
  obtain ⟨a1_4, e1_4, _, w1_4⟩ := DataW.trod_int Try.underlying25 gff1_0_4
  simp at e1_4; subst e1_4
  obtain ⟨zff1_0_5, gff1_0_5⟩ := ff1_0 5 _ rfl
  replace gff1_0_5 : DataW.trod enc Try.prog W 0 (fun _ => true) true mf1_0 25 [c1_5] = some zff1_0_5 := gff1_0_5
  obtain ⟨a1_5, e1_5, _, w1_5⟩ := DataW.trod_int Try.underlying25 gff1_0_5
  simp at e1_5; subst e1_5
  obtain ⟨zff1_0_6, gff1_0_6⟩ := ff1_0 6 _ rfl
  replace gff1_0_6 : DataW.trod enc Try.prog W 0 (fun _ => true) true mf1_0 25 [c1_6] = some zff1_0_6 := gff1_0_6
  obtain ⟨a1_6, e1_6, _, w1_6⟩ := DataW.trod_int Try.underlying25 gff1_0_6
  simp at e1_6; subst e1_6
  obtain ⟨zff1_0_7, gff1_0_7⟩ := ff1_0 7 _ rfl
  replace gff1_0_7 : DataW.trod enc Try.prog W 0 (fun _ => true) true mf1_0 25 [c1_7] = some zff1_0_7 := gff1_0_7
  obtain ⟨a1_7, e1_7, _, w1_7⟩ := DataW.trod_int Try.underlying25 gff1_0_7
  simp at e1_7; subst e1_7
  obtain ⟨zff1_0_8, gff1_0_8⟩ := ff1_0 8 _ rfl
  replace gff1_0_8 : DataW.trod enc Try.prog W 0 (fun _ => true) true mf1_0 25 [c1_8] = some zff1_0_8 := gff1_0_8
  obtain ⟨a1_8, e1_8, _, w1_8⟩ := DataW.trod_int Try.underlying25 gff1_0_8
  simp at e1_8; subst e1_8
  obtain ⟨zff1_0_9, gff1_0_9⟩ := ff1_0 9 _ rfl
  replace gff1_0_9 : DataW.trod enc Try.prog W 0 (fun _ => true) true mf1_0 25 [c1_9] = some zff1_0_9 := gff1_0_9
  obtain ⟨a1_9, e1_9, _, w1_9⟩ := DataW.trod_int Try.underlying25 gff1_0_9
  simp at e1_9; subst e1_9
  obtain ⟨zff1_0_10, gff1_0_10⟩ := ff1_0 10 _ rfl
  replace gff1_0_10 : DataW.trod enc Try.prog W 0 (fun _ => true) true mf1_0 25 [c1_10] = some zff1_0_10 := gff1_0_10
  obtain ⟨a1_10, e1_10, _, w1_10⟩ := DataW.trod_int Try.underlying25 gff1_0_10
  simp at e1_10; subst e1_10
  obtain ⟨zff1_0_11, gff1_0_11⟩ := ff1_0 11 _ rfl
  replace gff1_0_11 : DataW.trod enc Try.prog W 0 (fun _ => true) true mf1_0 25 [c1_11] = some zff1_0_11 := gff1_0_11
  obtain ⟨a1_11, e1_11, _, w1_11⟩ := DataW.trod_int Try.underlying25 gff1_0_11
  simp at e1_11; subst e1_11
  obtain ⟨zf1_1, gf1_1⟩ := f1 1 _ rfl
  replace gf1_1 : DataW.trod enc Try.prog W 0 (fun _ => true) true m1 3 [c1_12] = some zf1_1 := gf1_1
  obtain ⟨a1_12, e1_12, _, w1_12⟩ := DataW.trod_int Try.underlying3 gf1_1
  simp at e1_12; subst e1_12
  obtain ⟨zf1_2, gf1_2⟩ := f1 2 _ rfl
  replace gf1_2 : DataW.trod enc Try.prog W 0 (fun _ => true) true m1 3 [c1_13] = some zf1_2 := gf1_2
  obtain ⟨a1_13, e1_13, _, w1_13⟩ := DataW.trod_int Try.underlying3 gf1_2
  simp at e1_13; subst e1_13
  obtain ⟨zf1_3, gf1_3⟩ := f1 3 _ rfl
  replace gf1_3 : DataW.trod enc Try.prog W 0 (fun _ => true) true m1 25 [c1_14] = some zf1_3 := gf1_3
  obtain ⟨a1_14, e1_14, _, w1_14⟩ := DataW.trod_int Try.underlying25 gf1_3
  simp at e1_14; subst e1_14
  refine (walk W a0_0 w0_0 A0_1 n0_1 k0_1 mc0_1 cc0_1 el0_1 a1_0 w1_0 a1_1 w1_1 a1_2 w1_2 a1_3 w1_3 a1_4 w1_4 a1_5 w1_5 a1_6 w1_6 a1_7 w1_7 a1_8 w1_8 a1_9 w1_9 a1_10 w1_10 a1_11 w1_11 a1_12 w1_12 a1_13 w1_13 a1_14 w1_14).mono fun e W' ⟨he, bel⟩ => ?_
  subst he
  exact ⟨_, rfl, _, _, _, [], _, [], hW', trodAll_mk1 (shut_bool Try.underlying4 _), (trodAll_cons_mk (Below.trod laidOut (by kernel_rfl) (of_decide_eq_true (by kernel_rfl)) k0 bel lt0) (trodAll_cons_mk (Below.trod laidOut (by kernel_rfl) (of_decide_eq_true (by kernel_rfl)) k1 bel lt1) trodAll_mk0)), rfl, bel.frame _, fun h => by cases h⟩

theorem over : Rows.walkReadsRow.holds Try.pinned (OpenSpec.ofChange Rows.walkReadsSpec) :=
  OpenClaim.holds_of_wide 6 Try.f6 rfl rfl rfl rfl rfl rfl rfl ⟨rfl, rfl, rfl, rfl, rfl⟩ rfl rfl rfl rfl rfl (by kernel_rfl) Try.func6 (by kernel_rfl)
    (of_decide_eq_true (by kernel_rfl)) (by unfold Func.isWrapper; first | (rw [if_pos (by decide +kernel)]; kernel_rfl) | (rw [if_neg (by decide +kernel)]; exact ⟨rfl, rfl⟩))
    (fun os started H enc _ => lifted os started H enc)

/-- The statement. -/
theorem proved : Rows.WalkReadsSaid := over
#print axioms proved

end Go.Proofs.Ytaeloplmcinagaa.walkReads
