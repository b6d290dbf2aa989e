/-
  What the document's own Enter and Back (package suzerainref14) answer: contracts over the translation, by the program's plain functions.
  Conditions: the arguments are numbers of their kinds.
-/
import Derived.Test.YtkfmcbhoendocaaDoorTrR
namespace Go.Proofs.YtkfmcbhoendocaaDoor
open Go Go.RowKit Go.Maps W M D A C J
set_option linter.unusedVariables false
set_option linter.unusedSimpArgs false

set_option maxHeartbeats 2000000 in
theorem rBack_c (c : Cs) (hc : C.Good c) (w : World) :
    Calls Tryd.prog 10 #[vC c] w fun e w' => e = .returned (vCTT (backV c) (.int .u64 (gC c 5)) (.int .i64 (privV (gC c 0)))) ∧ w.grownBy w' none := by
  have HR := Row.fresh w 24 (lC c)
  have hl := left_bd (hc.get 0)
  have h0 := hc.get 0
  obtain ⟨a0, a1, a2, a3, a4, a5, a6, a7, a8, a9, a10, a11, rfl⟩ := twelve hc.1
  rw [vC_12, back_12]
  rw [show gC [a0, a1, a2, a3, a4, a5, a6, a7, a8, a9, a10, a11] 0 = a0 from rfl] at hl h0 ⊢
  rw [show gC [a0, a1, a2, a3, a4, a5, a6, a7, a8, a9, a10, a11] 5 = a5 from rfl]
  have T8 := Lib.hid (fun W => rbit_c a0 8 256 h0 b8 W)
  have T5 := Lib.hid (fun W => rbit_c a0 5 32 h0 b5 W)
  have S1 := Lib.hid (fun W => rset_c a0 1 2 (onV a0 32) h0 b1 W)
  have S2 := Lib.hid (fun W => rset_c (withV a0 2 (onV a0 32)) 5 32 true (with_bd h0 (by decide) _) b5 W)
  have S3 := Lib.hid (fun W => rset_c (withV (withV a0 2 (onV a0 32)) 32 true) 8 256 false (with_bd (with_bd h0 (by decide) _) (by decide) _) b8 W)
  rw [show withV (withV (withV a0 2 (onV a0 32)) 32 true) 256 false = leftV a0 from rfl] at S3
  generalize withV (withV a0 2 (onV a0 32)) 32 true = s2 at *
  generalize withV a0 2 (onV a0 32) = s1 at *
  generalize onV a0 32 = o5 at *
  generalize leftV a0 = l0 at *
  have G := gr_alloc (gr_alloc (gr_refl w none) (.cells #[.int .u64 a0, .int .u64 a1, .int .u64 a2, .int .u64 a3, .int .u64 a4, .int .u64 a5, .int .u64 a6, .int .u64 a7, .int .u64 a8, .int .u64 a9, .int .u64 a10, .int .u64 a11] 24)) (.cells #[.int .u64 0, .int .u64 0, .int .u64 0, .int .u64 0, .int .u64 0, .int .u64 0, .int .u64 0, .int .u64 0, .int .u64 0, .int .u64 0, .int .u64 0, .int .u64 0] 24)
  have RQ : Row ((w.alloc (.cells #[.int .u64 a0, .int .u64 a1, .int .u64 a2, .int .u64 a3, .int .u64 a4, .int .u64 a5, .int .u64 a6, .int .u64 a7, .int .u64 a8, .int .u64 a9, .int .u64 a10, .int .u64 a11] 24)).alloc (.cells #[.int .u64 0, .int .u64 0, .int .u64 0, .int .u64 0, .int .u64 0, .int .u64 0, .int .u64 0, .int .u64 0, .int .u64 0, .int .u64 0, .int .u64 0, .int .u64 0] 24)) w.heap.size 24 (lC [a0, a1, a2, a3, a4, a5, a6, a7, a8, a9, a10, a11]) := HR.alloc _
  have RZ : Row ((w.alloc (.cells #[.int .u64 a0, .int .u64 a1, .int .u64 a2, .int .u64 a3, .int .u64 a4, .int .u64 a5, .int .u64 a6, .int .u64 a7, .int .u64 a8, .int .u64 a9, .int .u64 a10, .int .u64 a11] 24)).alloc (.cells #[.int .u64 0, .int .u64 0, .int .u64 0, .int .u64 0, .int .u64 0, .int .u64 0, .int .u64 0, .int .u64 0, .int .u64 0, .int .u64 0, .int .u64 0, .int .u64 0] 24)) (w.heap.size + 1) 24 zC := freshB w (.cells #[.int .u64 a0, .int .u64 a1, .int .u64 a2, .int .u64 a3, .int .u64 a4, .int .u64 a5, .int .u64 a6, .int .u64 a7, .int .u64 a8, .int .u64 a9, .int .u64 a10, .int .u64 a11] 24) 24 zC
  clear HR hc
  unfold B64 at h0 hl
  have EPV := Lib.hid (show privV a0 = if onV a0 256 = true then 1 else 0 from rfl)
  generalize onV a0 256 = o8 at *
  go_enter Tryd.func10, Tryd.ntmps10
  obtain ⟨q, hq⟩ : ∃ q, w.heap.size = q := ⟨_, rfl⟩
  have HQ := Lib.hid (show w.heap.size ≤ q by omega)
  go_upto_region 2 with (fail)
  rw [hq] at RQ RZ
  clear hq
  generalize ((w.alloc (.cells #[.int .u64 a0, .int .u64 a1, .int .u64 a2, .int .u64 a3, .int .u64 a4, .int .u64 a5, .int .u64 a6, .int .u64 a7, .int .u64 a8, .int .u64 a9, .int .u64 a10, .int .u64 a11] 24)).alloc (.cells #[.int .u64 0, .int .u64 0, .int .u64 0, .int .u64 0, .int .u64 0, .int .u64 0, .int .u64 0, .int .u64 0, .int .u64 0, .int .u64 0, .int .u64 0, .int .u64 0] 24)) = V at *
  have GG := Lib.hid G
  clear G
  obtain ⟨k0, k1, k2, k3, k4, k5, k6, k7, k8, k9, k10, k11⟩ := cells12 RQ
  have fr := RQ.free
  have lt := RQ.lt
  go_wp2_with fail
  refine (T8.out _).mono ?_
  rintro e w' ⟨rfl, rfl⟩
  cases o8
  · have EP := Lib.hid (show privV a0 = 0 from EPV.out)
    clear EPV
    go_wp2_with fail
    refine (T5.out _).mono ?_
    rintro e w' ⟨rfl, rfl⟩
    go_wp2_with fail
    refine (S1.out _).mono ?_
    rintro e w' ⟨rfl, rfl⟩
    go_wp2_with fail
    refine (S2.out _).mono ?_
    rintro e w' ⟨rfl, rfl⟩
    go_wp2_with fail
    refine (S3.out _).mono ?_
    rintro e w' ⟨rfl, rfl⟩
    have R1 : Row (V.setCell ⟨q, 0, none⟩ (.int .u64 l0)) q 24 (lC [l0, a1, a2, a3, a4, a5, a6, a7, a8, a9, a10, a11]) := RQ.put 0 (.int .u64 l0)
    have Z1 : Row (V.setCell ⟨q, 0, none⟩ (.int .u64 l0)) (q + 1) 24 zC := RZ.other (show q + 1 ≠ q by omega) (.int .u64 l0)
    have G1 : w.grownBy (V.setCell ⟨q, 0, none⟩ (.int .u64 l0)) none := gr_row (gr_set (gr_none GG.out (some q)) _) HQ.out
    go_upto_region 6 with (fail)
    clear k0 k1 k2 k3 k4 k5 k6 k7 k8 k9 k10 k11 fr lt RQ RZ GG
    generalize V.setCell ⟨q, 0, none⟩ (.int .u64 l0) = U at *
    obtain ⟨m0, m1, m2, m3, m4, m5, m6, m7, m8, m9, m10, m11⟩ := cells12 R1
    obtain ⟨z0, z1, z2, z3, z4, z5, z6, z7, z8, z9, z10, z11⟩ := cells12 Z1
    have zf := Z1.free
    have lt := R1.lt
    have zt := Z1.lt
    have GU := Lib.hid G1
    have ZU := Lib.hid Z1
    clear G1 R1 Z1
    go_region_with (fail)
    all_goals
      go_wp2_with fail
      exact ret_CTT rfl rfl rfl rfl rfl (c := [l0, a1, a2, a3, a4, a5, a6, a7, a8, a9, a10, a11]) (x := .int .u64 a5) (y := .int .i64 0) (Row.grown (put12 ZU.out rfl _ _ _ _ _ _ _ _ _ _ _ _) (gr_drew (gr_refl _ none)) (by simp)) rfl ⟨by rw [EP.out], gr_drew (gr12 GU.out (Nat.le_succ_of_le HQ.out) _ _ _ _ _ _ _ _ _ _ _ _)⟩
  · have EP := Lib.hid (show privV a0 = 1 from EPV.out)
    clear EPV
    go_wp2_with fail
    refine (T5.out _).mono ?_
    rintro e w' ⟨rfl, rfl⟩
    go_wp2_with fail
    refine (S1.out _).mono ?_
    rintro e w' ⟨rfl, rfl⟩
    go_wp2_with fail
    refine (S2.out _).mono ?_
    rintro e w' ⟨rfl, rfl⟩
    go_wp2_with fail
    refine (S3.out _).mono ?_
    rintro e w' ⟨rfl, rfl⟩
    have R1 : Row (V.setCell ⟨q, 0, none⟩ (.int .u64 l0)) q 24 (lC [l0, a1, a2, a3, a4, a5, a6, a7, a8, a9, a10, a11]) := RQ.put 0 (.int .u64 l0)
    have Z1 : Row (V.setCell ⟨q, 0, none⟩ (.int .u64 l0)) (q + 1) 24 zC := RZ.other (show q + 1 ≠ q by omega) (.int .u64 l0)
    have G1 : w.grownBy (V.setCell ⟨q, 0, none⟩ (.int .u64 l0)) none := gr_row (gr_set (gr_none GG.out (some q)) _) HQ.out
    go_upto_region 6 with (fail)
    clear k0 k1 k2 k3 k4 k5 k6 k7 k8 k9 k10 k11 fr lt RQ RZ GG
    generalize V.setCell ⟨q, 0, none⟩ (.int .u64 l0) = U at *
    obtain ⟨m0, m1, m2, m3, m4, m5, m6, m7, m8, m9, m10, m11⟩ := cells12 R1
    obtain ⟨z0, z1, z2, z3, z4, z5, z6, z7, z8, z9, z10, z11⟩ := cells12 Z1
    have zf := Z1.free
    have lt := R1.lt
    have zt := Z1.lt
    have GU := Lib.hid G1
    have ZU := Lib.hid Z1
    clear G1 R1 Z1
    go_region_with (fail)
    all_goals
      go_wp2_with fail
      exact ret_CTT rfl rfl rfl rfl rfl (c := [l0, a1, a2, a3, a4, a5, a6, a7, a8, a9, a10, a11]) (x := .int .u64 a5) (y := .int .i64 1) (Row.grown (put12 ZU.out rfl _ _ _ _ _ _ _ _ _ _ _ _) (gr_drew (gr_refl _ none)) (by simp)) rfl ⟨by rw [EP.out], gr_drew (gr12 GU.out (Nat.le_succ_of_le HQ.out) _ _ _ _ _ _ _ _ _ _ _ _)⟩
set_option maxRecDepth 100000 in
set_option maxHeartbeats 4000000 in
theorem rEnter_c (c : Cs) (hc : C.Good c) (p pc : Int) (i : Bool) (kk v : Int) (hp : -9223372036854775808 ≤ p ∧ p ≤ 9223372036854775807) (hpc : B64 pc) (hk : -9223372036854775808 ≤ kk ∧ kk ≤ 9223372036854775807) (hv : B64 v) (w : World) :
    Calls Tryd.prog 8 #[vC c, .int .i64 p, .int .u64 pc, .bool i, .int .i64 kk, .int .u64 v] w fun e w' => e = .returned (vCT (enterV c p pc i kk v) (.int .u64 (handV (gC c 2) i kk))) ∧ w.grownBy w' none := by
  have g := fun i => hc.get i
  obtain ⟨a0, a1, a2, a3, a4, a5, a6, a7, a8, a9, a10, a11, rfl⟩ := twelve hc.1
  rw [enter_12, show gC [a0, a1, a2, a3, a4, a5, a6, a7, a8, a9, a10, a11] 2 = a2 from rfl]
  have g0 : B64 a0 := g 0
  have g2 : B64 a2 := g 2
  have hpe : B64 (epcV pc) := epc_bd hpc
  have hca : B64 (causeV i kk) := cause_bd i kk
  have HE := ent_bd g0 p
  have HH := hand_bd g2 i kk
  have T1 := Lib.hid (fun W => rbit_c a0 1 2 g0 b1 W)
  have S1 := Lib.hid (fun W => rset_c a0 5 32 (onV a0 2) g0 b5 W)
  have S2 := Lib.hid (fun W => rset_c (withV a0 32 (onV a0 2)) 1 2 false (with_bd g0 (by decide) _) b1 W)
  have S3 := Lib.hid (fun W => rset_c (withV (withV a0 32 (onV a0 2)) 2 false) 8 256 (p == 1) (with_bd (with_bd g0 (by decide) _) (by decide) _) b8 W)
  rw [show withV (withV (withV a0 32 (onV a0 2)) 2 false) 256 (p == 1) = entV a0 p from rfl] at S3
  have hw := u64_bd kk
  have epc := epc_sub hpc
  have ways : (i = false ∧ handV a2 i kk = a2 - a2 % 4 ∧ causeV i kk = IntKind.u64.wrap kk) ∨
      (i = true ∧ (a2 % 2 == 1) = false ∧ handV a2 i kk = a2 - a2 % 4 ∧ IntKind.u64.wrap (IntKind.u64.wrap kk + 9223372036854775808) = causeV i kk) ∨
      (i = true ∧ (a2 % 2 == 1) = true ∧ IntKind.u64.wrap (a2 - a2 % 4 + IntKind.u64.wrap (4 * IntKind.u64.wrap kk)) = handV a2 i kk ∧ IntKind.u64.wrap (IntKind.u64.wrap kk + 9223372036854775808) = causeV i kk) := by
    rw [hand_mod g2]
    cases i
    · exact Or.inl ⟨rfl, rfl, rfl⟩
    · cases e : (a2 % 2 == 1)
      · exact Or.inr (Or.inl ⟨rfl, rfl, by rfl, rfl⟩)
      · exact Or.inr (Or.inr ⟨rfl, rfl, by rfl, rfl⟩)
  have hnb : 0 ≤ a2 - a2 % 4 ∧ a2 - a2 % 4 ≤ 18446744073709551615 := by unfold B64 at g2; omega
  rw [vC_12]
  generalize entV a0 p = en at *
  generalize withV (withV a0 32 (onV a0 2)) 2 false = s2 at *
  generalize withV a0 32 (onV a0 2) = s1 at *
  generalize onV a0 2 = o1 at *
  have RQ : Row ((w.alloc (.cells #[.int .u64 a0, .int .u64 a1, .int .u64 a2, .int .u64 a3, .int .u64 a4, .int .u64 a5, .int .u64 a6, .int .u64 a7, .int .u64 a8, .int .u64 a9, .int .u64 a10, .int .u64 a11] 24)).alloc (.cells #[.int .u64 0, .int .u64 0, .int .u64 0, .int .u64 0, .int .u64 0, .int .u64 0, .int .u64 0, .int .u64 0, .int .u64 0, .int .u64 0, .int .u64 0, .int .u64 0] 24)) w.heap.size 24 (lC [a0, a1, a2, a3, a4, a5, a6, a7, a8, a9, a10, a11]) := (Row.fresh w 24 (lC [a0, a1, a2, a3, a4, a5, a6, a7, a8, a9, a10, a11])).alloc _
  have RZ : Row ((w.alloc (.cells #[.int .u64 a0, .int .u64 a1, .int .u64 a2, .int .u64 a3, .int .u64 a4, .int .u64 a5, .int .u64 a6, .int .u64 a7, .int .u64 a8, .int .u64 a9, .int .u64 a10, .int .u64 a11] 24)).alloc (.cells #[.int .u64 0, .int .u64 0, .int .u64 0, .int .u64 0, .int .u64 0, .int .u64 0, .int .u64 0, .int .u64 0, .int .u64 0, .int .u64 0, .int .u64 0, .int .u64 0] 24)) (w.heap.size + 1) 24 zC := freshB w (.cells #[.int .u64 a0, .int .u64 a1, .int .u64 a2, .int .u64 a3, .int .u64 a4, .int .u64 a5, .int .u64 a6, .int .u64 a7, .int .u64 a8, .int .u64 a9, .int .u64 a10, .int .u64 a11] 24) 24 zC
  have G := Lib.hid (show w.grownBy ((w.alloc (.cells #[.int .u64 a0, .int .u64 a1, .int .u64 a2, .int .u64 a3, .int .u64 a4, .int .u64 a5, .int .u64 a6, .int .u64 a7, .int .u64 a8, .int .u64 a9, .int .u64 a10, .int .u64 a11] 24)).alloc (.cells #[.int .u64 0, .int .u64 0, .int .u64 0, .int .u64 0, .int .u64 0, .int .u64 0, .int .u64 0, .int .u64 0, .int .u64 0, .int .u64 0, .int .u64 0, .int .u64 0] 24)) none from gr_alloc (gr_alloc (gr_refl w none) (.cells #[.int .u64 a0, .int .u64 a1, .int .u64 a2, .int .u64 a3, .int .u64 a4, .int .u64 a5, .int .u64 a6, .int .u64 a7, .int .u64 a8, .int .u64 a9, .int .u64 a10, .int .u64 a11] 24)) (.cells #[.int .u64 0, .int .u64 0, .int .u64 0, .int .u64 0, .int .u64 0, .int .u64 0, .int .u64 0, .int .u64 0, .int .u64 0, .int .u64 0, .int .u64 0, .int .u64 0] 24))
  clear hc g
  unfold B64 at g0 g2 hpe hca hpc hv HE HH
  generalize handV a2 i kk = ha at *
  generalize causeV i kk = ca at *
  generalize epcV pc = pe at *
  generalize hcw : IntKind.u64.wrap kk = cw at ways hw
  generalize hnv : a2 - a2 % 4 = nv at ways hnb
  rcases ways with ⟨rfl, rfl, rfl⟩ | ⟨rfl, d5, rfl, d6⟩ | ⟨rfl, d5, d7, d6⟩
  · go_enter Tryd.func8, Tryd.ntmps8
    obtain ⟨q, hq⟩ : ∃ q, w.heap.size = q := ⟨_, rfl⟩
    have HQ := Lib.hid (show w.heap.size ≤ q by omega)
    go_upto_region 1 with (fail)
    rw [hq] at RQ RZ
    clear hq
    generalize ((w.alloc (.cells #[.int .u64 a0, .int .u64 a1, .int .u64 a2, .int .u64 a3, .int .u64 a4, .int .u64 a5, .int .u64 a6, .int .u64 a7, .int .u64 a8, .int .u64 a9, .int .u64 a10, .int .u64 a11] 24)).alloc (.cells #[.int .u64 0, .int .u64 0, .int .u64 0, .int .u64 0, .int .u64 0, .int .u64 0, .int .u64 0, .int .u64 0, .int .u64 0, .int .u64 0, .int .u64 0, .int .u64 0] 24)) = V at *
    have RA : Row (((V.setCell ⟨q, 5, none⟩ (.int .u64 pe)).setCell ⟨q, 6, none⟩ (.int .u64 ca)).setCell ⟨q, 7, none⟩ (.int .u64 v)) q 24 (lC [a0, a1, a2, a3, a4, pe, ca, v, a8, a9, a10, a11]) := (((RQ.put 5 (.int .u64 pe)).put 6 (.int .u64 ca)).put 7 (.int .u64 v))
    have ZA : Row (((V.setCell ⟨q, 5, none⟩ (.int .u64 pe)).setCell ⟨q, 6, none⟩ (.int .u64 ca)).setCell ⟨q, 7, none⟩ (.int .u64 v)) (q + 1) 24 zC := (((RZ.other (show q + 1 ≠ q by omega) (a := @Addr.mk q 5 none) (.int .u64 pe)).other (show q + 1 ≠ q by omega) (a := @Addr.mk q 6 none) (.int .u64 ca)).other (show q + 1 ≠ q by omega) (a := @Addr.mk q 7 none) (.int .u64 v))
    have GA : w.grownBy (((V.setCell ⟨q, 5, none⟩ (.int .u64 pe)).setCell ⟨q, 6, none⟩ (.int .u64 ca)).setCell ⟨q, 7, none⟩ (.int .u64 v)) none := gr_row (gr_set (gr_set (gr_set (gr_none G.out (some q)) _) _) _) HQ.out
    obtain ⟨k0, k1, k2, k3, k4, k5, k6, k7, k8, k9, k10, k11⟩ := cells12 RQ
    have fr := RQ.free
    have lt := RQ.lt
    clear RQ RZ G
    go_upto_region 6 with (fail)
    clear k0 k1 k2 k3 k4 k5 k6 k7 k8 k9 k10 k11 fr lt
    generalize (((V.setCell ⟨q, 5, none⟩ (.int .u64 pe)).setCell ⟨q, 6, none⟩ (.int .u64 ca)).setCell ⟨q, 7, none⟩ (.int .u64 v)) = U at *
    obtain ⟨k0, k1, k2, k3, k4, k5, k6, k7, k8, k9, k10, k11⟩ := cells12 RA
    have fr := RA.free
    have lt := RA.lt
    go_wp2_with fail
    refine (T1.out _).mono ?_
    rintro e w' ⟨rfl, rfl⟩
    go_wp2_with fail
    refine (S1.out _).mono ?_
    rintro e w' ⟨rfl, rfl⟩
    go_wp2_with fail
    refine (S2.out _).mono ?_
    rintro e w' ⟨rfl, rfl⟩
    go_wp2_with fail
    refine (S3.out _).mono ?_
    rintro e w' ⟨rfl, rfl⟩
    have R1 : Row (U.setCell ⟨q, 0, none⟩ (.int .u64 en)) q 24 (lC [en, a1, a2, a3, a4, pe, ca, v, a8, a9, a10, a11]) := RA.put 0 (.int .u64 en)
    have Z1 : Row (U.setCell ⟨q, 0, none⟩ (.int .u64 en)) (q + 1) 24 zC := ZA.other (show q + 1 ≠ q by omega) (.int .u64 en)
    have G1 : w.grownBy (U.setCell ⟨q, 0, none⟩ (.int .u64 en)) none := gr_row (gr_set (gr_none GA (some q)) _) HQ.out
    go_upto_region 8 with (fail)
    clear k0 k1 k2 k3 k4 k5 k6 k7 k8 k9 k10 k11 fr lt RA ZA GA
    generalize U.setCell ⟨q, 0, none⟩ (.int .u64 en) = X at *
    obtain ⟨m0, m1, m2, m3, m4, m5, m6, m7, m8, m9, m10, m11⟩ := cells12 R1
    obtain ⟨z0, z1, z2, z3, z4, z5, z6, z7, z8, z9, z10, z11⟩ := cells12 Z1
    have zf := Z1.free
    have lt := R1.lt
    have zt := Z1.lt
    have GU := Lib.hid G1
    have ZU := Lib.hid Z1
    clear G1 R1 Z1
    go_wp2_with fail
    refine ret_CT rfl rfl rfl rfl (c := [en, a1, a2, a3, a4, pe, ca, v, a8, a9, a10, a11]) (x := .int .u64 ha) (put12 ZU.out rfl _ _ _ _ _ _ _ _ _ _ _ _) rfl ⟨rfl, gr12 GU.out (Nat.le_succ_of_le HQ.out) _ _ _ _ _ _ _ _ _ _ _ _⟩
  · go_enter Tryd.func8, Tryd.ntmps8
    obtain ⟨q, hq⟩ : ∃ q, w.heap.size = q := ⟨_, rfl⟩
    have HQ := Lib.hid (show w.heap.size ≤ q by omega)
    go_upto_region 1 with (fail)
    rw [hq] at RQ RZ
    clear hq
    generalize ((w.alloc (.cells #[.int .u64 a0, .int .u64 a1, .int .u64 a2, .int .u64 a3, .int .u64 a4, .int .u64 a5, .int .u64 a6, .int .u64 a7, .int .u64 a8, .int .u64 a9, .int .u64 a10, .int .u64 a11] 24)).alloc (.cells #[.int .u64 0, .int .u64 0, .int .u64 0, .int .u64 0, .int .u64 0, .int .u64 0, .int .u64 0, .int .u64 0, .int .u64 0, .int .u64 0, .int .u64 0, .int .u64 0] 24)) = V at *
    have RA : Row ((((V.setCell ⟨q, 5, none⟩ (.int .u64 pe)).setCell ⟨q, 6, none⟩ (.int .u64 cw)).setCell ⟨q, 6, none⟩ (.int .u64 ca)).setCell ⟨q, 7, none⟩ (.int .u64 v)) q 24 (lC [a0, a1, a2, a3, a4, pe, ca, v, a8, a9, a10, a11]) := ((((RQ.put 5 (.int .u64 pe)).put 6 (.int .u64 cw)).put 6 (.int .u64 ca)).put 7 (.int .u64 v))
    have ZA : Row ((((V.setCell ⟨q, 5, none⟩ (.int .u64 pe)).setCell ⟨q, 6, none⟩ (.int .u64 cw)).setCell ⟨q, 6, none⟩ (.int .u64 ca)).setCell ⟨q, 7, none⟩ (.int .u64 v)) (q + 1) 24 zC := ((((RZ.other (show q + 1 ≠ q by omega) (a := @Addr.mk q 5 none) (.int .u64 pe)).other (show q + 1 ≠ q by omega) (a := @Addr.mk q 6 none) (.int .u64 cw)).other (show q + 1 ≠ q by omega) (a := @Addr.mk q 6 none) (.int .u64 ca)).other (show q + 1 ≠ q by omega) (a := @Addr.mk q 7 none) (.int .u64 v))
    have GA : w.grownBy ((((V.setCell ⟨q, 5, none⟩ (.int .u64 pe)).setCell ⟨q, 6, none⟩ (.int .u64 cw)).setCell ⟨q, 6, none⟩ (.int .u64 ca)).setCell ⟨q, 7, none⟩ (.int .u64 v)) none := gr_row (gr_set (gr_set (gr_set (gr_set (gr_none G.out (some q)) _) _) _) _) HQ.out
    obtain ⟨k0, k1, k2, k3, k4, k5, k6, k7, k8, k9, k10, k11⟩ := cells12 RQ
    have fr := RQ.free
    have lt := RQ.lt
    clear RQ RZ G
    go_upto_region 6 with (fail)
    clear k0 k1 k2 k3 k4 k5 k6 k7 k8 k9 k10 k11 fr lt
    generalize ((((V.setCell ⟨q, 5, none⟩ (.int .u64 pe)).setCell ⟨q, 6, none⟩ (.int .u64 cw)).setCell ⟨q, 6, none⟩ (.int .u64 ca)).setCell ⟨q, 7, none⟩ (.int .u64 v)) = U at *
    obtain ⟨k0, k1, k2, k3, k4, k5, k6, k7, k8, k9, k10, k11⟩ := cells12 RA
    have fr := RA.free
    have lt := RA.lt
    go_wp2_with fail
    refine (T1.out _).mono ?_
    rintro e w' ⟨rfl, rfl⟩
    go_wp2_with fail
    refine (S1.out _).mono ?_
    rintro e w' ⟨rfl, rfl⟩
    go_wp2_with fail
    refine (S2.out _).mono ?_
    rintro e w' ⟨rfl, rfl⟩
    go_wp2_with fail
    refine (S3.out _).mono ?_
    rintro e w' ⟨rfl, rfl⟩
    have R1 : Row (U.setCell ⟨q, 0, none⟩ (.int .u64 en)) q 24 (lC [en, a1, a2, a3, a4, pe, ca, v, a8, a9, a10, a11]) := RA.put 0 (.int .u64 en)
    have Z1 : Row (U.setCell ⟨q, 0, none⟩ (.int .u64 en)) (q + 1) 24 zC := ZA.other (show q + 1 ≠ q by omega) (.int .u64 en)
    have G1 : w.grownBy (U.setCell ⟨q, 0, none⟩ (.int .u64 en)) none := gr_row (gr_set (gr_none GA (some q)) _) HQ.out
    go_upto_region 8 with (fail)
    clear k0 k1 k2 k3 k4 k5 k6 k7 k8 k9 k10 k11 fr lt RA ZA GA
    generalize U.setCell ⟨q, 0, none⟩ (.int .u64 en) = X at *
    obtain ⟨m0, m1, m2, m3, m4, m5, m6, m7, m8, m9, m10, m11⟩ := cells12 R1
    obtain ⟨z0, z1, z2, z3, z4, z5, z6, z7, z8, z9, z10, z11⟩ := cells12 Z1
    have zf := Z1.free
    have lt := R1.lt
    have zt := Z1.lt
    have GU := Lib.hid G1
    have ZU := Lib.hid Z1
    clear G1 R1 Z1
    go_wp2_with fail
    refine ret_CT rfl rfl rfl rfl (c := [en, a1, a2, a3, a4, pe, ca, v, a8, a9, a10, a11]) (x := .int .u64 ha) (put12 ZU.out rfl _ _ _ _ _ _ _ _ _ _ _ _) rfl ⟨rfl, gr12 GU.out (Nat.le_succ_of_le HQ.out) _ _ _ _ _ _ _ _ _ _ _ _⟩
  · go_enter Tryd.func8, Tryd.ntmps8
    obtain ⟨q, hq⟩ : ∃ q, w.heap.size = q := ⟨_, rfl⟩
    have HQ := Lib.hid (show w.heap.size ≤ q by omega)
    go_upto_region 1 with (fail)
    rw [hq] at RQ RZ
    clear hq
    generalize ((w.alloc (.cells #[.int .u64 a0, .int .u64 a1, .int .u64 a2, .int .u64 a3, .int .u64 a4, .int .u64 a5, .int .u64 a6, .int .u64 a7, .int .u64 a8, .int .u64 a9, .int .u64 a10, .int .u64 a11] 24)).alloc (.cells #[.int .u64 0, .int .u64 0, .int .u64 0, .int .u64 0, .int .u64 0, .int .u64 0, .int .u64 0, .int .u64 0, .int .u64 0, .int .u64 0, .int .u64 0, .int .u64 0] 24)) = V at *
    have RA : Row ((((V.setCell ⟨q, 5, none⟩ (.int .u64 pe)).setCell ⟨q, 6, none⟩ (.int .u64 cw)).setCell ⟨q, 6, none⟩ (.int .u64 ca)).setCell ⟨q, 7, none⟩ (.int .u64 v)) q 24 (lC [a0, a1, a2, a3, a4, pe, ca, v, a8, a9, a10, a11]) := ((((RQ.put 5 (.int .u64 pe)).put 6 (.int .u64 cw)).put 6 (.int .u64 ca)).put 7 (.int .u64 v))
    have ZA : Row ((((V.setCell ⟨q, 5, none⟩ (.int .u64 pe)).setCell ⟨q, 6, none⟩ (.int .u64 cw)).setCell ⟨q, 6, none⟩ (.int .u64 ca)).setCell ⟨q, 7, none⟩ (.int .u64 v)) (q + 1) 24 zC := ((((RZ.other (show q + 1 ≠ q by omega) (a := @Addr.mk q 5 none) (.int .u64 pe)).other (show q + 1 ≠ q by omega) (a := @Addr.mk q 6 none) (.int .u64 cw)).other (show q + 1 ≠ q by omega) (a := @Addr.mk q 6 none) (.int .u64 ca)).other (show q + 1 ≠ q by omega) (a := @Addr.mk q 7 none) (.int .u64 v))
    have GA : w.grownBy ((((V.setCell ⟨q, 5, none⟩ (.int .u64 pe)).setCell ⟨q, 6, none⟩ (.int .u64 cw)).setCell ⟨q, 6, none⟩ (.int .u64 ca)).setCell ⟨q, 7, none⟩ (.int .u64 v)) none := gr_row (gr_set (gr_set (gr_set (gr_set (gr_none G.out (some q)) _) _) _) _) HQ.out
    obtain ⟨k0, k1, k2, k3, k4, k5, k6, k7, k8, k9, k10, k11⟩ := cells12 RQ
    have fr := RQ.free
    have lt := RQ.lt
    clear RQ RZ G
    go_upto_region 6 with (fail)
    clear k0 k1 k2 k3 k4 k5 k6 k7 k8 k9 k10 k11 fr lt
    generalize ((((V.setCell ⟨q, 5, none⟩ (.int .u64 pe)).setCell ⟨q, 6, none⟩ (.int .u64 cw)).setCell ⟨q, 6, none⟩ (.int .u64 ca)).setCell ⟨q, 7, none⟩ (.int .u64 v)) = U at *
    obtain ⟨k0, k1, k2, k3, k4, k5, k6, k7, k8, k9, k10, k11⟩ := cells12 RA
    have fr := RA.free
    have lt := RA.lt
    go_wp2_with fail
    refine (T1.out _).mono ?_
    rintro e w' ⟨rfl, rfl⟩
    go_wp2_with fail
    refine (S1.out _).mono ?_
    rintro e w' ⟨rfl, rfl⟩
    go_wp2_with fail
    refine (S2.out _).mono ?_
    rintro e w' ⟨rfl, rfl⟩
    go_wp2_with fail
    refine (S3.out _).mono ?_
    rintro e w' ⟨rfl, rfl⟩
    have R1 : Row (U.setCell ⟨q, 0, none⟩ (.int .u64 en)) q 24 (lC [en, a1, a2, a3, a4, pe, ca, v, a8, a9, a10, a11]) := RA.put 0 (.int .u64 en)
    have Z1 : Row (U.setCell ⟨q, 0, none⟩ (.int .u64 en)) (q + 1) 24 zC := ZA.other (show q + 1 ≠ q by omega) (.int .u64 en)
    have G1 : w.grownBy (U.setCell ⟨q, 0, none⟩ (.int .u64 en)) none := gr_row (gr_set (gr_none GA (some q)) _) HQ.out
    go_upto_region 8 with (fail)
    clear k0 k1 k2 k3 k4 k5 k6 k7 k8 k9 k10 k11 fr lt RA ZA GA
    generalize U.setCell ⟨q, 0, none⟩ (.int .u64 en) = X at *
    obtain ⟨m0, m1, m2, m3, m4, m5, m6, m7, m8, m9, m10, m11⟩ := cells12 R1
    obtain ⟨z0, z1, z2, z3, z4, z5, z6, z7, z8, z9, z10, z11⟩ := cells12 Z1
    have zf := Z1.free
    have lt := R1.lt
    have zt := Z1.lt
    have GU := Lib.hid G1
    have ZU := Lib.hid Z1
    clear G1 R1 Z1
    go_wp2_with fail
    refine ret_CT rfl rfl rfl rfl (c := [en, a1, a2, a3, a4, pe, ca, v, a8, a9, a10, a11]) (x := .int .u64 ha) (put12 ZU.out rfl _ _ _ _ _ _ _ _ _ _ _ _) rfl ⟨rfl, gr12 GU.out (Nat.le_succ_of_le HQ.out) _ _ _ _ _ _ _ _ _ _ _ _⟩
theorem rback12 {a0 a1 a2 a3 a4 a5 a6 a7 a8 a9 a10 a11 : Int} (hc : C.Good [a0, a1, a2, a3, a4, a5, a6, a7, a8, a9, a10, a11]) (w : World) :
    Calls Tryd.prog 10 #[.agg #[.int .u64 a0, .int .u64 a1, .int .u64 a2, .int .u64 a3, .int .u64 a4, .int .u64 a5, .int .u64 a6, .int .u64 a7, .int .u64 a8, .int .u64 a9, .int .u64 a10, .int .u64 a11]] w fun e w' => e = .returned (.tuple #[.agg #[.int .u64 (leftV a0), .int .u64 a1, .int .u64 a2, .int .u64 a3, .int .u64 a4, .int .u64 a5, .int .u64 a6, .int .u64 a7, .int .u64 a8, .int .u64 a9, .int .u64 a10, .int .u64 a11], .int .u64 a5, .int .i64 (privV a0)]) ∧ w.grownBy w' none := rBack_c _ hc w
theorem renter12 {a0 a1 a2 a3 a4 a5 a6 a7 a8 a9 a10 a11 : Int} (hc : C.Good [a0, a1, a2, a3, a4, a5, a6, a7, a8, a9, a10, a11]) (p pc : Int) (i : Bool) (kk v : Int) (hp : -9223372036854775808 ≤ p ∧ p ≤ 9223372036854775807) (hpc : B64 pc) (hk : -9223372036854775808 ≤ kk ∧ kk ≤ 9223372036854775807) (hv : B64 v) (w : World) :
    Calls Tryd.prog 8 #[.agg #[.int .u64 a0, .int .u64 a1, .int .u64 a2, .int .u64 a3, .int .u64 a4, .int .u64 a5, .int .u64 a6, .int .u64 a7, .int .u64 a8, .int .u64 a9, .int .u64 a10, .int .u64 a11], .int .i64 p, .int .u64 pc, .bool i, .int .i64 kk, .int .u64 v] w fun e w' => e = .returned (.tuple #[.agg #[.int .u64 (entV a0 p), .int .u64 a1, .int .u64 a2, .int .u64 a3, .int .u64 a4, .int .u64 (epcV pc), .int .u64 (causeV i kk), .int .u64 v, .int .u64 a8, .int .u64 a9, .int .u64 a10, .int .u64 a11], .int .u64 (handV a2 i kk)]) ∧ w.grownBy w' none := rEnter_c _ hc p pc i kk v hp hpc hk hv w
end Go.Proofs.YtkfmcbhoendocaaDoor
