/-
  What the document's own Do (package suzerainref09) answers of op 71: a contract over the translation, by the program's plain functions.
  Conditions: the arguments are numbers of their kinds.
-/
import Derived.Test.YtlbhkmigbnhngaaCsrR
import Derived.Test.YtlbhkmigbnhngaaCsrDo
import Derived.Test.YtlbhkmigbnhngaaCsrK
import Derived.Deep.Cut
namespace Go.Proofs.Ytlbhkmigbnhngaa
open Go Go.RowKit Go.Maps W M D A C
set_option linter.unusedVariables false
set_option linter.unusedSimpArgs false

set_option maxRecDepth 100000 in
set_option maxHeartbeats 40000000 in
theorem rDo_71 (c : Cs) (hc : C.Good c) (p t rd r r2 n ln b : Int) (hp : J64 p) (ht : B64 t) (hr1 : J64 r) (hn : J64 n) (hb : B64 b) (w : World) :
    Calls Try.prog 21 #[vC c, .int .i64 p, .int .u64 t, .agg #[.int .i64 71, .int .i64 rd, .int .i64 r, .int .i64 r2, .int .i64 n, .int .i64 ln], .int .u64 b] w
      fun e w' => e = .returned (vD (C.doV c p t 71 r n b) (toldV c p t 71 r n) (okV c p 71 r n)) ∧ w.grownBy w' none := by
  have HC := Lib.hid hc
  obtain ⟨a0, a1, a2, a3, a4, a5, a6, a7, a8, a9, a10, a11, hcc⟩ := twelve hc.1
  have hv := vC_12 a0 a1 a2 a3 a4 a5 a6 a7 a8 a9 a10 a11
  rw [← hcc] at hv
  rw [hv]
  have HV := Lib.hid hv
  have ECC := Lib.hid hcc
  have HR := Lib.hid (((Row.fresh w 24 (lC c)).alloc (.cells #[.int .i64 71, .int .i64 rd, .int .i64 r, .int .i64 r2, .int .i64 n, .int .i64 ln] 35)).alloc (.cells #[.int .u64 0, .int .u64 0, .int .u64 0, .int .u64 0, .int .u64 0, .int .u64 0, .int .u64 0, .int .u64 0, .int .u64 0, .int .u64 0, .int .u64 0, .int .u64 0] 24))
  have HI := Lib.hid ((freshB w (.cells (lC c).toArray 24) 35 [.int .i64 71, .int .i64 rd, .int .i64 r, .int .i64 r2, .int .i64 n, .int .i64 ln]).alloc (.cells #[.int .u64 0, .int .u64 0, .int .u64 0, .int .u64 0, .int .u64 0, .int .u64 0, .int .u64 0, .int .u64 0, .int .u64 0, .int .u64 0, .int .u64 0, .int .u64 0] 24))
  have HZ := Lib.hid (show Row (((w.alloc (.cells (lC c).toArray 24)).alloc (.cells #[.int .i64 71, .int .i64 rd, .int .i64 r, .int .i64 r2, .int .i64 n, .int .i64 ln] 35)).alloc (.cells #[.int .u64 0, .int .u64 0, .int .u64 0, .int .u64 0, .int .u64 0, .int .u64 0, .int .u64 0, .int .u64 0, .int .u64 0, .int .u64 0, .int .u64 0, .int .u64 0] 24)) (w.heap.size + 1 + 1) 24 zC by have := freshB (w.alloc (.cells (lC c).toArray 24)) (.cells #[.int .i64 71, .int .i64 rd, .int .i64 r, .int .i64 r2, .int .i64 n, .int .i64 ln] 35) 24 zC; rw [show ((w.alloc (.cells (lC c).toArray 24)).heap.size) = w.heap.size + 1 by simp] at this; exact this)
  have HGR := Lib.hid (gr_alloc (gr_alloc (gr_alloc (gr_refl w none) (.cells (lC c).toArray 24)) (.cells #[.int .i64 71, .int .i64 rd, .int .i64 r, .int .i64 r2, .int .i64 n, .int .i64 ln] 35)) (.cells #[.int .u64 0, .int .u64 0, .int .u64 0, .int .u64 0, .int .u64 0, .int .u64 0, .int .u64 0, .int .u64 0, .int .u64 0, .int .u64 0, .int .u64 0, .int .u64 0] 24))
  rw [show (lC c).toArray = #[.int .u64 a0, .int .u64 a1, .int .u64 a2, .int .u64 a3, .int .u64 a4, .int .u64 a5, .int .u64 a6, .int .u64 a7, .int .u64 a8, .int .u64 a9, .int .u64 a10, .int .u64 a11] by rw [hcc]; rfl] at HR HI HZ HGR
  clear hv hcc hc
  have HK := Lib.hid (fun W => rKind_c 71 (by decide) W)
  rw [show kindV 71 = 12 by decide +kernel] at HK
  have hM := Lib.hid (fun W wv => rMay_c c HC.out n p wv hn hp W)
  have hRd := Lib.hid (fun W => rRead_c c HC.out n t hn ht W)
  rw [HV.out] at hM hRd
  have HB := Lib.hid hb
  unfold B64 J64 at *
  go_enter Try.func21, Try.ntmps21
  go_wp2_with fail
  refine (HK.out _).mono ?_
  rintro e w1 ⟨rfl, hG⟩
  have R1 := Row.grown HR.out hG (by simp)
  have I1 := Row.grown HI.out hG (by simp)
  have Z1 := Row.grown HZ.out hG (by simp)
  have G1 := gr_trans HGR.out hG
  clear HR HI HZ HGR hG HK
  obtain ⟨q, hq⟩ : ∃ q, w.heap.size = q := ⟨_, rfl⟩
  rw [hq] at R1 I1 Z1 ⊢
  have HQ := Lib.hid (show w.heap.size ≤ q by omega)
  clear hq
  by_cases hr : r = 0
  · subst hr
    have EW := Lib.hid (show wrV 71 0 = false from rfl)
    have EM := Lib.hid (show okV c p 71 0 n = mayV c n p false by rw [okV, EW.out]; rfl)
    have RR1 := R1
    rw [ECC.out] at RR1
    obtain ⟨k0, k1, k2, k3, k4, k5, k6, k7, k8, k9, k10, k11⟩ := cells12 RR1
    obtain ⟨i0, i1, i2, i3, i4, i5⟩ := cells6 I1
    go_wp2_with fail
    refine (hM.out _ false).mono ?_
    rintro e w2 ⟨rfl, hG⟩
    clear RR1 k0 k1 k2 k3 k4 k5 k6 k7 k8 k9 k10 k11 i0 i1 i2 i3 i4 i5
    have R2 := Row.grown R1 hG (by simp)
    have I2 := Row.grown I1 hG (by simp)
    have Z2 := Row.grown Z1 hG (by simp)
    have G2 := gr_trans G1 hG
    clear hG R1 I1 Z1 G1
    have RR2 := R2
    rw [ECC.out] at RR2
    obtain ⟨k0, k1, k2, k3, k4, k5, k6, k7, k8, k9, k10, k11⟩ := cells12 RR2
    obtain ⟨i0, i1, i2, i3, i4, i5⟩ := cells6 I2
    generalize mayV c n p false = mv at *
    cases mv with
    | false =>
      have ED := Lib.hid (show C.doV c p t 71 0 n b = c by rw [C.doV, if_neg (by rw [EM.out]; simp)])
      have ET := Lib.hid (show toldV c p t 71 0 n = 0 by rw [toldV, if_neg (by rw [EM.out]; simp)])
      obtain ⟨z0, z1, z2, z3, z4, z5, z6, z7, z8, z9, z10, z11⟩ := cells12 Z2
      have zf := Z2.free
      go_wp2_with fail
      exact ret_D rfl rfl rfl rfl rfl (c := c) (by rw [ECC.out]; exact put12 Z2 rfl _ _ _ _ _ _ _ _ _ _ _ _) HC.out.1 ⟨by rw [ED.out, ET.out, EM.out], gr12 G2 (Nat.le_succ_of_le (Nat.le_succ_of_le HQ.out)) _ _ _ _ _ _ _ _ _ _ _ _⟩
    | true =>
      have ET := Lib.hid (show toldV c p t 71 0 n = readV c n t by rw [toldV, if_pos (by rw [EM.out])])
      go_wp2_with fail
      refine (hRd.out _).mono ?_
      rintro e w3 ⟨rfl, hG⟩
      clear RR2 k0 k1 k2 k3 k4 k5 k6 k7 k8 k9 k10 k11 i0 i1 i2 i3 i4 i5
      have R3 := Row.grown R2 hG (by simp)
      have I3 := Row.grown I2 hG (by simp)
      have Z3 := Row.grown Z2 hG (by simp)
      have G3 := gr_trans G2 hG
      clear hG R2 I2 Z2 G2
      have RR3 := R3
      rw [ECC.out] at RR3
      obtain ⟨k0, k1, k2, k3, k4, k5, k6, k7, k8, k9, k10, k11⟩ := cells12 RR3
      obtain ⟨i0, i1, i2, i3, i4, i5⟩ := cells6 I3
      have hT := read_bd HC.out n ht
      have HT := Lib.hid hT
      have ED := Lib.hid (show C.doV c p t 71 0 n b = c by rw [C.doV, if_neg (by rw [EW.out]; simp)])
      generalize readV c n t = tv at *
      unfold B64 at hT
      obtain ⟨z0, z1, z2, z3, z4, z5, z6, z7, z8, z9, z10, z11⟩ := cells12 Z3
      have zf := Z3.free
      go_wp2_with fail
      exact ret_D rfl rfl rfl rfl rfl (c := c) (by rw [ECC.out]; exact put12 Z3 rfl _ _ _ _ _ _ _ _ _ _ _ _) HC.out.1 ⟨by rw [ED.out, ET.out, EM.out], gr12 G3 (Nat.le_succ_of_le (Nat.le_succ_of_le HQ.out)) _ _ _ _ _ _ _ _ _ _ _ _⟩
  · have hr0 : (r == 0) = false := by simpa using hr
    have hr9 : (r != 0) = true := by rw [bne, hr0]; rfl
    clear hr
    have EW := Lib.hid (show wrV 71 r = true by rw [show wrV 71 r = !(r == 0) from rfl, hr0]; rfl)
    have EM := Lib.hid (show okV c p 71 r n = mayV c n p true by rw [okV, EW.out]; rfl)
    have RR1 := R1
    rw [ECC.out] at RR1
    obtain ⟨k0, k1, k2, k3, k4, k5, k6, k7, k8, k9, k10, k11⟩ := cells12 RR1
    obtain ⟨i0, i1, i2, i3, i4, i5⟩ := cells6 I1
    go_wp2_with fail
    refine (hM.out _ true).mono ?_
    rintro e w2 ⟨rfl, hG⟩
    clear RR1 k0 k1 k2 k3 k4 k5 k6 k7 k8 k9 k10 k11 i0 i1 i2 i3 i4 i5
    have R2 := Row.grown R1 hG (by simp)
    have I2 := Row.grown I1 hG (by simp)
    have Z2 := Row.grown Z1 hG (by simp)
    have G2 := gr_trans G1 hG
    clear hG R1 I1 Z1 G1
    have RR2 := R2
    rw [ECC.out] at RR2
    obtain ⟨k0, k1, k2, k3, k4, k5, k6, k7, k8, k9, k10, k11⟩ := cells12 RR2
    obtain ⟨i0, i1, i2, i3, i4, i5⟩ := cells6 I2
    generalize mayV c n p true = mv at *
    cases mv with
    | false =>
      have ED := Lib.hid (show C.doV c p t 71 r n b = c by rw [C.doV, if_neg (by rw [EM.out]; simp)])
      have ET := Lib.hid (show toldV c p t 71 r n = 0 by rw [toldV, if_neg (by rw [EM.out]; simp)])
      obtain ⟨z0, z1, z2, z3, z4, z5, z6, z7, z8, z9, z10, z11⟩ := cells12 Z2
      have zf := Z2.free
      go_wp2_with fail
      exact ret_D rfl rfl rfl rfl rfl (c := c) (by rw [ECC.out]; exact put12 Z2 rfl _ _ _ _ _ _ _ _ _ _ _ _) HC.out.1 ⟨by rw [ED.out, ET.out, EM.out], gr12 G2 (Nat.le_succ_of_le (Nat.le_succ_of_le HQ.out)) _ _ _ _ _ _ _ _ _ _ _ _⟩
    | true =>
      have ET := Lib.hid (show toldV c p t 71 r n = readV c n t by rw [toldV, if_pos (by rw [EM.out])])
      go_wp2_with fail
      refine (hRd.out _).mono ?_
      rintro e w3 ⟨rfl, hG⟩
      clear RR2 k0 k1 k2 k3 k4 k5 k6 k7 k8 k9 k10 k11 i0 i1 i2 i3 i4 i5
      have R3 := Row.grown R2 hG (by simp)
      have I3 := Row.grown I2 hG (by simp)
      have Z3 := Row.grown Z2 hG (by simp)
      have G3 := gr_trans G2 hG
      clear hG R2 I2 Z2 G2
      have RR3 := R3
      rw [ECC.out] at RR3
      obtain ⟨k0, k1, k2, k3, k4, k5, k6, k7, k8, k9, k10, k11⟩ := cells12 RR3
      obtain ⟨i0, i1, i2, i3, i4, i5⟩ := cells6 I3
      have hT := read_bd HC.out n ht
      have HT := Lib.hid hT
      have ED := Lib.hid (show C.doV c p t 71 r n b = writeV c n (fV 71 (readV c n t) (yV 71 r b)) by rw [C.doV, if_pos ⟨by rw [EM.out], EW.out⟩])
      have hz := f_bd (o := 71) HT.out (y_bd (o := 71) (r := r) (b := b) HB.out)
      have hWr := Lib.hid (fun W => rWrite_c c HC.out n (fV 71 (readV c n t) (yV 71 r b)) hn hz W)
      have hGW := write_good HC.out n hz
      rw [HV.out] at hWr
      obtain ⟨d0, d1, d2, d3, d4, d5, d6, d7, d8, d9, d10, d11, ed⟩ := twelve hGW.1
      rw [ed, vC_12] at hWr
      rw [ed] at ED
      generalize readV c n t = tv at *
      replace hWr := Lib.hid (show ∀ W, Calls Try.prog 15 #[.agg #[.int .u64 a0, .int .u64 a1, .int .u64 a2, .int .u64 a3, .int .u64 a4, .int .u64 a5, .int .u64 a6, .int .u64 a7, .int .u64 a8, .int .u64 a9, .int .u64 a10, .int .u64 a11], .int .i64 n, .int .u64 (bits .or .u64 tv (b))] W fun e w' => e = .returned (.agg #[.int .u64 d0, .int .u64 d1, .int .u64 d2, .int .u64 d3, .int .u64 d4, .int .u64 d5, .int .u64 d6, .int .u64 d7, .int .u64 d8, .int .u64 d9, .int .u64 d10, .int .u64 d11]) ∧ W.grownBy w' none from hWr.out)
      replace hz : B64 (bits .or .u64 tv (b)) := hz
      unfold B64 at hT hz
      clear ed hGW
      go_wp2_with fail
      refine (hWr.out _).mono ?_
      rintro e w4 ⟨rfl, hG⟩
      clear RR3 k0 k1 k2 k3 k4 k5 k6 k7 k8 k9 k10 k11 i0 i1 i2 i3 i4 i5
      have R4 := Row.grown R3 hG (by simp)
      have I4 := Row.grown I3 hG (by simp)
      have Z4 := Row.grown Z3 hG (by simp)
      have G4 := gr_trans G3 hG
      clear hG R3 I3 Z3 G3
      have RR4 := R4
      rw [ECC.out] at RR4
      obtain ⟨k0, k1, k2, k3, k4, k5, k6, k7, k8, k9, k10, k11⟩ := cells12 RR4
      have fr := RR4.free
      go_upto_region 20 with (fail)
      have RX : Row ((((((((((((w4.setCell ⟨q, 0, none⟩ (.int .u64 d0)).setCell ⟨q, 1, none⟩ (.int .u64 d1)).setCell ⟨q, 2, none⟩ (.int .u64 d2)).setCell ⟨q, 3, none⟩ (.int .u64 d3)).setCell ⟨q, 4, none⟩ (.int .u64 d4)).setCell ⟨q, 5, none⟩ (.int .u64 d5)).setCell ⟨q, 6, none⟩ (.int .u64 d6)).setCell ⟨q, 7, none⟩ (.int .u64 d7)).setCell ⟨q, 8, none⟩ (.int .u64 d8)).setCell ⟨q, 9, none⟩ (.int .u64 d9)).setCell ⟨q, 10, none⟩ (.int .u64 d10)).setCell ⟨q, 11, none⟩ (.int .u64 d11)) q 24 (lC [d0, d1, d2, d3, d4, d5, d6, d7, d8, d9, d10, d11]) := put12 RR4 rfl (.int .u64 d0) (.int .u64 d1) (.int .u64 d2) (.int .u64 d3) (.int .u64 d4) (.int .u64 d5) (.int .u64 d6) (.int .u64 d7) (.int .u64 d8) (.int .u64 d9) (.int .u64 d10) (.int .u64 d11)
      have ZX : Row ((((((((((((w4.setCell ⟨q, 0, none⟩ (.int .u64 d0)).setCell ⟨q, 1, none⟩ (.int .u64 d1)).setCell ⟨q, 2, none⟩ (.int .u64 d2)).setCell ⟨q, 3, none⟩ (.int .u64 d3)).setCell ⟨q, 4, none⟩ (.int .u64 d4)).setCell ⟨q, 5, none⟩ (.int .u64 d5)).setCell ⟨q, 6, none⟩ (.int .u64 d6)).setCell ⟨q, 7, none⟩ (.int .u64 d7)).setCell ⟨q, 8, none⟩ (.int .u64 d8)).setCell ⟨q, 9, none⟩ (.int .u64 d9)).setCell ⟨q, 10, none⟩ (.int .u64 d10)).setCell ⟨q, 11, none⟩ (.int .u64 d11)) (q + 1 + 1) 24 zC := oth12 Z4 (by omega) (.int .u64 d0) (.int .u64 d1) (.int .u64 d2) (.int .u64 d3) (.int .u64 d4) (.int .u64 d5) (.int .u64 d6) (.int .u64 d7) (.int .u64 d8) (.int .u64 d9) (.int .u64 d10) (.int .u64 d11)
      have GX : w.grownBy ((((((((((((w4.setCell ⟨q, 0, none⟩ (.int .u64 d0)).setCell ⟨q, 1, none⟩ (.int .u64 d1)).setCell ⟨q, 2, none⟩ (.int .u64 d2)).setCell ⟨q, 3, none⟩ (.int .u64 d3)).setCell ⟨q, 4, none⟩ (.int .u64 d4)).setCell ⟨q, 5, none⟩ (.int .u64 d5)).setCell ⟨q, 6, none⟩ (.int .u64 d6)).setCell ⟨q, 7, none⟩ (.int .u64 d7)).setCell ⟨q, 8, none⟩ (.int .u64 d8)).setCell ⟨q, 9, none⟩ (.int .u64 d9)).setCell ⟨q, 10, none⟩ (.int .u64 d10)).setCell ⟨q, 11, none⟩ (.int .u64 d11)) none := gr12 G4 HQ.out (.int .u64 d0) (.int .u64 d1) (.int .u64 d2) (.int .u64 d3) (.int .u64 d4) (.int .u64 d5) (.int .u64 d6) (.int .u64 d7) (.int .u64 d8) (.int .u64 d9) (.int .u64 d10) (.int .u64 d11)
      generalize ((((((((((((w4.setCell ⟨q, 0, none⟩ (.int .u64 d0)).setCell ⟨q, 1, none⟩ (.int .u64 d1)).setCell ⟨q, 2, none⟩ (.int .u64 d2)).setCell ⟨q, 3, none⟩ (.int .u64 d3)).setCell ⟨q, 4, none⟩ (.int .u64 d4)).setCell ⟨q, 5, none⟩ (.int .u64 d5)).setCell ⟨q, 6, none⟩ (.int .u64 d6)).setCell ⟨q, 7, none⟩ (.int .u64 d7)).setCell ⟨q, 8, none⟩ (.int .u64 d8)).setCell ⟨q, 9, none⟩ (.int .u64 d9)).setCell ⟨q, 10, none⟩ (.int .u64 d10)).setCell ⟨q, 11, none⟩ (.int .u64 d11)) = X at *
      clear k0 k1 k2 k3 k4 k5 k6 k7 k8 k9 k10 k11 fr RR4 R4 I4 Z4 G4
      obtain ⟨k0, k1, k2, k3, k4, k5, k6, k7, k8, k9, k10, k11⟩ := cells12 RX
      obtain ⟨z0, z1, z2, z3, z4, z5, z6, z7, z8, z9, z10, z11⟩ := cells12 ZX
      have zf := ZX.free
      go_wp2_with fail
      exact ret_D rfl rfl rfl rfl rfl (c := [d0, d1, d2, d3, d4, d5, d6, d7, d8, d9, d10, d11]) (put12 ZX rfl _ _ _ _ _ _ _ _ _ _ _ _) rfl ⟨by rw [ED.out, ET.out, EM.out], gr12 GX (Nat.le_succ_of_le (Nat.le_succ_of_le HQ.out)) _ _ _ _ _ _ _ _ _ _ _ _⟩
end Go.Proofs.Ytlbhkmigbnhngaa
