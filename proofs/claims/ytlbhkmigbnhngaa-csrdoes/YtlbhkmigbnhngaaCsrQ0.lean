/-
  What the document's own Do (package suzerainref09) answers of ops that are none of its own: a contract over the translation, by the program's plain functions.
  Conditions: the arguments are numbers of their kinds.
-/
import Derived.Test.YtlbhkmigbnhngaaCsrR
import Derived.Test.YtlbhkmigbnhngaaCsrDo
import Derived.Test.YtlbhkmigbnhngaaCsrK
import Derived.Deep.Cut
namespace Go.Proofs.Ytlbhkmigbnhngaa
open Go Go.RowKit Go.Maps W M D A C
set_option linter.unusedVariables false
set_option linter.unusedSimpArgs false

set_option maxRecDepth 100000 in
set_option maxHeartbeats 40000000 in
theorem rDo_none (c : Cs) (hc : C.Good c) (p t o rd r r2 n ln b : Int) (hp : J64 p) (ht : B64 t) (ho : J64 o) (hno : ¬ (70 ≤ o ∧ o ≤ 75)) (hr1 : J64 r) (hn : J64 n) (hb : B64 b) (w : World) :
    Calls Try.prog 21 #[vC c, .int .i64 p, .int .u64 t, .agg #[.int .i64 o, .int .i64 rd, .int .i64 r, .int .i64 r2, .int .i64 n, .int .i64 ln], .int .u64 b] w
      fun e w' => e = .returned (vD (C.doV c p t o r n b) (toldV c p t o r n) (okV c p o r n)) ∧ w.grownBy w' none := by
  have HC := Lib.hid hc
  obtain ⟨a0, a1, a2, a3, a4, a5, a6, a7, a8, a9, a10, a11, hcc⟩ := twelve hc.1
  have hv := vC_12 a0 a1 a2 a3 a4 a5 a6 a7 a8 a9 a10 a11
  rw [← hcc] at hv
  rw [hv]
  have HV := Lib.hid hv
  have ECC := Lib.hid hcc
  have HR := Lib.hid (((Row.fresh w 24 (lC c)).alloc (.cells #[.int .i64 o, .int .i64 rd, .int .i64 r, .int .i64 r2, .int .i64 n, .int .i64 ln] 35)).alloc (.cells #[.int .u64 0, .int .u64 0, .int .u64 0, .int .u64 0, .int .u64 0, .int .u64 0, .int .u64 0, .int .u64 0, .int .u64 0, .int .u64 0, .int .u64 0, .int .u64 0] 24))
  have HI := Lib.hid ((freshB w (.cells (lC c).toArray 24) 35 [.int .i64 o, .int .i64 rd, .int .i64 r, .int .i64 r2, .int .i64 n, .int .i64 ln]).alloc (.cells #[.int .u64 0, .int .u64 0, .int .u64 0, .int .u64 0, .int .u64 0, .int .u64 0, .int .u64 0, .int .u64 0, .int .u64 0, .int .u64 0, .int .u64 0, .int .u64 0] 24))
  have HZ := Lib.hid (show Row (((w.alloc (.cells (lC c).toArray 24)).alloc (.cells #[.int .i64 o, .int .i64 rd, .int .i64 r, .int .i64 r2, .int .i64 n, .int .i64 ln] 35)).alloc (.cells #[.int .u64 0, .int .u64 0, .int .u64 0, .int .u64 0, .int .u64 0, .int .u64 0, .int .u64 0, .int .u64 0, .int .u64 0, .int .u64 0, .int .u64 0, .int .u64 0] 24)) (w.heap.size + 1 + 1) 24 zC by have := freshB (w.alloc (.cells (lC c).toArray 24)) (.cells #[.int .i64 o, .int .i64 rd, .int .i64 r, .int .i64 r2, .int .i64 n, .int .i64 ln] 35) 24 zC; rw [show ((w.alloc (.cells (lC c).toArray 24)).heap.size) = w.heap.size + 1 by simp] at this; exact this)
  have HGR := Lib.hid (gr_alloc (gr_alloc (gr_alloc (gr_refl w none) (.cells (lC c).toArray 24)) (.cells #[.int .i64 o, .int .i64 rd, .int .i64 r, .int .i64 r2, .int .i64 n, .int .i64 ln] 35)) (.cells #[.int .u64 0, .int .u64 0, .int .u64 0, .int .u64 0, .int .u64 0, .int .u64 0, .int .u64 0, .int .u64 0, .int .u64 0, .int .u64 0, .int .u64 0, .int .u64 0] 24))
  rw [show (lC c).toArray = #[.int .u64 a0, .int .u64 a1, .int .u64 a2, .int .u64 a3, .int .u64 a4, .int .u64 a5, .int .u64 a6, .int .u64 a7, .int .u64 a8, .int .u64 a9, .int .u64 a10, .int .u64 a11] by rw [hcc]; rfl] at HR HI HZ HGR
  clear hv hcc hc
  have HK := Lib.hid (fun W => rKind_c o ho W)
  have hk : (kindV o != 12) = true := by have := mt (kind12 o).1 hno; simpa using this
  have e0 : A.look tI o = none := by simp only [tI, A.look]; rw [if_neg (by omega), if_neg (by omega), if_neg (by omega), if_neg (by omega), if_neg (by omega), if_neg (by omega)]
  have EO := Lib.hid (show okV c p o r n = false by rw [okV, isI, e0]; rfl)
  have ED := Lib.hid (show C.doV c p t o r n b = c by rw [C.doV, if_neg (by rw [EO.out]; simp)])
  have ET := Lib.hid (show toldV c p t o r n = 0 by rw [toldV, if_neg (by rw [EO.out]; simp)])
  clear e0
  generalize kindV o = kd at *
  have hM := Lib.hid (fun W wv => rMay_c c HC.out n p wv hn hp W)
  have hRd := Lib.hid (fun W => rRead_c c HC.out n t hn ht W)
  rw [HV.out] at hM hRd
  have HB := Lib.hid hb
  unfold B64 J64 at *
  go_enter Try.func21, Try.ntmps21
  go_wp2_with fail
  refine (HK.out _).mono ?_
  rintro e w1 ⟨rfl, hG⟩
  have R1 := Row.grown HR.out hG (by simp)
  have I1 := Row.grown HI.out hG (by simp)
  have Z1 := Row.grown HZ.out hG (by simp)
  have G1 := gr_trans HGR.out hG
  clear HR HI HZ HGR hG HK
  obtain ⟨q, hq⟩ : ∃ q, w.heap.size = q := ⟨_, rfl⟩
  rw [hq] at R1 I1 Z1 ⊢
  have HQ := Lib.hid (show w.heap.size ≤ q by omega)
  clear hq
  have RR1 := R1
  rw [ECC.out] at RR1
  obtain ⟨k0, k1, k2, k3, k4, k5, k6, k7, k8, k9, k10, k11⟩ := cells12 RR1
  obtain ⟨i0, i1, i2, i3, i4, i5⟩ := cells6 I1
  obtain ⟨z0, z1, z2, z3, z4, z5, z6, z7, z8, z9, z10, z11⟩ := cells12 Z1
  have zf := Z1.free
  go_wp2_with fail
  exact ret_D rfl rfl rfl rfl rfl (c := c) (by rw [ECC.out]; exact put12 Z1 rfl _ _ _ _ _ _ _ _ _ _ _ _) HC.out.1 ⟨by rw [ED.out, ET.out, EO.out], gr12 G1 (Nat.le_succ_of_le (Nat.le_succ_of_le HQ.out)) _ _ _ _ _ _ _ _ _ _ _ _⟩
end Go.Proofs.Ytlbhkmigbnhngaa
