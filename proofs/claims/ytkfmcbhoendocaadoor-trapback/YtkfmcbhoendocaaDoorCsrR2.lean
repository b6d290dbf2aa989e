/-
  What the document's own Legal (package suzerainref09) answers: a contract over the translation, by the program's plain function.
  Conditions: the arguments are numbers of their kinds.
-/
import Derived.Test.YtkfmcbhoendocaaDoorCsrR
import Derived.Test.YtkfmcbhoendocaaDoorCsrLw
import Derived.Deep.Cut
namespace Go.Proofs.YtkfmcbhoendocaaDoor
open Go Go.RowKit Go.Maps W M D A C
set_option linter.unusedVariables false
set_option linter.unusedSimpArgs false

set_option maxRecDepth 100000 in
set_option maxHeartbeats 8000000 in
theorem rLegal_c (c : Cs) (hc : C.Good c) (w : World) :
    Calls Tryd.prog 15 #[vC c] w fun e w' => e = .returned (vC (legalV c)) ∧ w.grownBy w' none := by
  have g := fun i => hc.get i
  obtain ⟨a0, a1, a2, a3, a4, a5, a6, a7, a8, a9, a10, a11, rfl⟩ := twelve hc.1
  have g0 : B64 a0 := g 0
  have g1 : B64 a1 := g 1
  have g2 : B64 a2 := g 2
  have g3 : B64 a3 := g 3
  have g4 : B64 a4 := g 4
  have g5 : B64 a5 := g 5
  have g6 : B64 a6 := g 6
  have g7 : B64 a7 := g 7
  have g8 : B64 a8 := g 8
  have g9 : B64 a9 := g 9
  have g10 : B64 a10 := g 10
  have g11 : B64 a11 := g 11
  have EL := Lib.hid (show legalV [a0, a1, a2, a3, a4, a5, a6, a7, a8, a9, a10, a11] = [statV a0 a0, andV a1 546, andV a2 18446744073709551613, andV a3 7, a4, andV a5 18446744073709551614, a6, a7, andV a8 34, satpV 0 a9, a10, a11] from legal_12 a0 a1 a2 a3 a4 a5 a6 a7 a8 a9 a10 a11)
  have hs0 : B64 (statV a0 a0) := stat_bd (a := a0) g0
  have hs1 : B64 (andV a1 546) := and_bd g1 (by decide)
  have hs2 : B64 (andV a2 18446744073709551613) := and_bd g2 (by decide)
  have hs3 : B64 (andV a3 7) := and_bd g3 (by decide)
  have hs5 : B64 (andV a5 18446744073709551614) := and_bd g5 (by decide)
  have W0 := Lib.hid (fun W => rWrite_c [a0, a1, a2, a3, a4, a5, a6, a7, a8, a9, a10, a11] (good12 g0 g1 g2 g3 g4 g5 g6 g7 g8 g9 g10 g11) 256 a0 (by decide) g0 W)
  rw [show writeV [a0, a1, a2, a3, a4, a5, a6, a7, a8, a9, a10, a11] 256 a0 = [statV a0 a0, a1, a2, a3, a4, a5, a6, a7, a8, a9, a10, a11] from rfl, vC_12, vC_12] at W0
  have W1 := Lib.hid (fun W => rWrite_c [statV a0 a0, a1, a2, a3, a4, a5, a6, a7, a8, a9, a10, a11] (good12 hs0 g1 g2 g3 g4 g5 g6 g7 g8 g9 g10 g11) 260 a1 (by decide) g1 W)
  rw [show writeV [statV a0 a0, a1, a2, a3, a4, a5, a6, a7, a8, a9, a10, a11] 260 a1 = [statV a0 a0, andV a1 546, a2, a3, a4, a5, a6, a7, a8, a9, a10, a11] from rfl, vC_12, vC_12] at W1
  have W2 := Lib.hid (fun W => rWrite_c [statV a0 a0, andV a1 546, a2, a3, a4, a5, a6, a7, a8, a9, a10, a11] (good12 hs0 hs1 g2 g3 g4 g5 g6 g7 g8 g9 g10 g11) 261 a2 (by decide) g2 W)
  rw [show writeV [statV a0 a0, andV a1 546, a2, a3, a4, a5, a6, a7, a8, a9, a10, a11] 261 a2 = [statV a0 a0, andV a1 546, andV a2 18446744073709551613, a3, a4, a5, a6, a7, a8, a9, a10, a11] from rfl, vC_12, vC_12] at W2
  have W3 := Lib.hid (fun W => rWrite_c [statV a0 a0, andV a1 546, andV a2 18446744073709551613, a3, a4, a5, a6, a7, a8, a9, a10, a11] (good12 hs0 hs1 hs2 g3 g4 g5 g6 g7 g8 g9 g10 g11) 262 a3 (by decide) g3 W)
  rw [show writeV [statV a0 a0, andV a1 546, andV a2 18446744073709551613, a3, a4, a5, a6, a7, a8, a9, a10, a11] 262 a3 = [statV a0 a0, andV a1 546, andV a2 18446744073709551613, andV a3 7, a4, a5, a6, a7, a8, a9, a10, a11] from rfl, vC_12, vC_12] at W3
  have W4 := Lib.hid (fun W => rWrite_c [statV a0 a0, andV a1 546, andV a2 18446744073709551613, andV a3 7, a4, a5, a6, a7, a8, a9, a10, a11] (good12 hs0 hs1 hs2 hs3 g4 g5 g6 g7 g8 g9 g10 g11) 321 a5 (by decide) g5 W)
  rw [show writeV [statV a0 a0, andV a1 546, andV a2 18446744073709551613, andV a3 7, a4, a5, a6, a7, a8, a9, a10, a11] 321 a5 = [statV a0 a0, andV a1 546, andV a2 18446744073709551613, andV a3 7, a4, andV a5 18446744073709551614, a6, a7, a8, a9, a10, a11] from rfl, vC_12, vC_12] at W4
  generalize statV a0 a0 = s0 at *
  generalize andV a1 546 = s1 at *
  generalize andV a2 18446744073709551613 = s2 at *
  generalize andV a3 7 = s3 at *
  generalize andV a5 18446744073709551614 = s5 at *
  rw [EL.out]
  rw [vC_12]
  have RC := Lib.hid (Row.fresh w 24 (lC [a0, a1, a2, a3, a4, a5, a6, a7, a8, a9, a10, a11]))
  unfold B64 at g0 g1 g2 g3 g4 g5 g6 g7 g8 g9 g10 g11 hs0 hs1 hs2 hs3 hs5
  have RCa := Lib.hid ((Row.fresh w 24 (lC [a0, a1, a2, a3, a4, a5, a6, a7, a8, a9, a10, a11])).alloc (.cells #[.int .u64 0, .int .u64 0, .int .u64 0, .int .u64 0, .int .u64 0, .int .u64 0, .int .u64 0, .int .u64 0, .int .u64 0, .int .u64 0, .int .u64 0, .int .u64 0] 24))
  have RZa := Lib.hid (show Row ((w.alloc (.cells (lC [a0, a1, a2, a3, a4, a5, a6, a7, a8, a9, a10, a11]).toArray 24)).alloc (.cells #[.int .u64 0, .int .u64 0, .int .u64 0, .int .u64 0, .int .u64 0, .int .u64 0, .int .u64 0, .int .u64 0, .int .u64 0, .int .u64 0, .int .u64 0, .int .u64 0] 24)) (w.heap.size + 1) 24 zC from freshB w (.cells (lC [a0, a1, a2, a3, a4, a5, a6, a7, a8, a9, a10, a11]).toArray 24) 24 zC)
  have G0 := Lib.hid (gr_alloc (gr_alloc (gr_refl w none) (.cells (lC [a0, a1, a2, a3, a4, a5, a6, a7, a8, a9, a10, a11]).toArray 24)) (.cells #[.int .u64 0, .int .u64 0, .int .u64 0, .int .u64 0, .int .u64 0, .int .u64 0, .int .u64 0, .int .u64 0, .int .u64 0, .int .u64 0, .int .u64 0, .int .u64 0] 24))
  clear hc g
  go_enter Tryd.func15, Tryd.ntmps15
  go_wp2_with fail
  refine (W0.out _).mono ?_
  rintro e w1 ⟨rfl, hG⟩
  have RC1 := Row.grown RCa.out hG (by simp)
  have RZ1 := Row.grown RZa.out hG (by simp)
  have GW := gr_trans G0.out hG
  clear RC RCa RZa G0 hG
  obtain ⟨q, hq⟩ : ∃ q, w.heap.size = q := ⟨_, rfl⟩
  rw [hq] at RC1 RZ1 ⊢
  have HQ := Lib.hid (show w.heap.size ≤ q by omega)
  clear hq
  obtain ⟨k0, k1, k2, k3, k4, k5, k6, k7, k8, k9, k10, k11⟩ := cells12 RC1
  have fr := RC1.free
  go_wp2_with fail
  refine (W1.out _).mono ?_
  rintro e w2 ⟨rfl, hG⟩
  have RC2 : Row w2 q 24 (lC [s0, a1, a2, a3, a4, a5, a6, a7, a8, a9, a10, a11]) := Row.grown (put12 RC1 rfl (.int .u64 s0) (.int .u64 a1) (.int .u64 a2) (.int .u64 a3) (.int .u64 a4) (.int .u64 a5) (.int .u64 a6) (.int .u64 a7) (.int .u64 a8) (.int .u64 a9) (.int .u64 a10) (.int .u64 a11)) hG (by simp)
  have RZ2 := Row.grown (oth12 RZ1 (by omega) (.int .u64 s0) (.int .u64 a1) (.int .u64 a2) (.int .u64 a3) (.int .u64 a4) (.int .u64 a5) (.int .u64 a6) (.int .u64 a7) (.int .u64 a8) (.int .u64 a9) (.int .u64 a10) (.int .u64 a11)) hG (by simp)
  have GW2 := gr_trans (gr12 GW HQ.out (.int .u64 s0) (.int .u64 a1) (.int .u64 a2) (.int .u64 a3) (.int .u64 a4) (.int .u64 a5) (.int .u64 a6) (.int .u64 a7) (.int .u64 a8) (.int .u64 a9) (.int .u64 a10) (.int .u64 a11)) hG
  clear hG fr RC1 RZ1 GW k0 k1 k2 k3 k4 k5 k6 k7 k8 k9 k10 k11
  have RC1 := RC2
  have RZ1 := RZ2
  have GW := GW2
  clear RC2 RZ2 GW2
  obtain ⟨k0, k1, k2, k3, k4, k5, k6, k7, k8, k9, k10, k11⟩ := cells12 RC1
  have fr := RC1.free
  go_wp2_with fail
  refine (W2.out _).mono ?_
  rintro e w3 ⟨rfl, hG⟩
  have RC2 : Row w3 q 24 (lC [s0, s1, a2, a3, a4, a5, a6, a7, a8, a9, a10, a11]) := Row.grown (put12 RC1 rfl (.int .u64 s0) (.int .u64 s1) (.int .u64 a2) (.int .u64 a3) (.int .u64 a4) (.int .u64 a5) (.int .u64 a6) (.int .u64 a7) (.int .u64 a8) (.int .u64 a9) (.int .u64 a10) (.int .u64 a11)) hG (by simp)
  have RZ2 := Row.grown (oth12 RZ1 (by omega) (.int .u64 s0) (.int .u64 s1) (.int .u64 a2) (.int .u64 a3) (.int .u64 a4) (.int .u64 a5) (.int .u64 a6) (.int .u64 a7) (.int .u64 a8) (.int .u64 a9) (.int .u64 a10) (.int .u64 a11)) hG (by simp)
  have GW2 := gr_trans (gr12 GW HQ.out (.int .u64 s0) (.int .u64 s1) (.int .u64 a2) (.int .u64 a3) (.int .u64 a4) (.int .u64 a5) (.int .u64 a6) (.int .u64 a7) (.int .u64 a8) (.int .u64 a9) (.int .u64 a10) (.int .u64 a11)) hG
  clear hG fr RC1 RZ1 GW k0 k1 k2 k3 k4 k5 k6 k7 k8 k9 k10 k11
  have RC1 := RC2
  have RZ1 := RZ2
  have GW := GW2
  clear RC2 RZ2 GW2
  obtain ⟨k0, k1, k2, k3, k4, k5, k6, k7, k8, k9, k10, k11⟩ := cells12 RC1
  have fr := RC1.free
  go_wp2_with fail
  refine (W3.out _).mono ?_
  rintro e w4 ⟨rfl, hG⟩
  have RC2 : Row w4 q 24 (lC [s0, s1, s2, a3, a4, a5, a6, a7, a8, a9, a10, a11]) := Row.grown (put12 RC1 rfl (.int .u64 s0) (.int .u64 s1) (.int .u64 s2) (.int .u64 a3) (.int .u64 a4) (.int .u64 a5) (.int .u64 a6) (.int .u64 a7) (.int .u64 a8) (.int .u64 a9) (.int .u64 a10) (.int .u64 a11)) hG (by simp)
  have RZ2 := Row.grown (oth12 RZ1 (by omega) (.int .u64 s0) (.int .u64 s1) (.int .u64 s2) (.int .u64 a3) (.int .u64 a4) (.int .u64 a5) (.int .u64 a6) (.int .u64 a7) (.int .u64 a8) (.int .u64 a9) (.int .u64 a10) (.int .u64 a11)) hG (by simp)
  have GW2 := gr_trans (gr12 GW HQ.out (.int .u64 s0) (.int .u64 s1) (.int .u64 s2) (.int .u64 a3) (.int .u64 a4) (.int .u64 a5) (.int .u64 a6) (.int .u64 a7) (.int .u64 a8) (.int .u64 a9) (.int .u64 a10) (.int .u64 a11)) hG
  clear hG fr RC1 RZ1 GW k0 k1 k2 k3 k4 k5 k6 k7 k8 k9 k10 k11
  have RC1 := RC2
  have RZ1 := RZ2
  have GW := GW2
  clear RC2 RZ2 GW2
  obtain ⟨k0, k1, k2, k3, k4, k5, k6, k7, k8, k9, k10, k11⟩ := cells12 RC1
  have fr := RC1.free
  go_wp2_with fail
  refine (W4.out _).mono ?_
  rintro e w5 ⟨rfl, hG⟩
  have RC2 : Row w5 q 24 (lC [s0, s1, s2, s3, a4, a5, a6, a7, a8, a9, a10, a11]) := Row.grown (put12 RC1 rfl (.int .u64 s0) (.int .u64 s1) (.int .u64 s2) (.int .u64 s3) (.int .u64 a4) (.int .u64 a5) (.int .u64 a6) (.int .u64 a7) (.int .u64 a8) (.int .u64 a9) (.int .u64 a10) (.int .u64 a11)) hG (by simp)
  have RZ2 := Row.grown (oth12 RZ1 (by omega) (.int .u64 s0) (.int .u64 s1) (.int .u64 s2) (.int .u64 s3) (.int .u64 a4) (.int .u64 a5) (.int .u64 a6) (.int .u64 a7) (.int .u64 a8) (.int .u64 a9) (.int .u64 a10) (.int .u64 a11)) hG (by simp)
  have GW2 := gr_trans (gr12 GW HQ.out (.int .u64 s0) (.int .u64 s1) (.int .u64 s2) (.int .u64 s3) (.int .u64 a4) (.int .u64 a5) (.int .u64 a6) (.int .u64 a7) (.int .u64 a8) (.int .u64 a9) (.int .u64 a10) (.int .u64 a11)) hG
  clear hG fr RC1 RZ1 GW k0 k1 k2 k3 k4 k5 k6 k7 k8 k9 k10 k11
  have RC1 := RC2
  have RZ1 := RZ2
  have GW := GW2
  clear RC2 RZ2 GW2
  by_cases h0 : a9 / 1152921504606846976 = 0
  · have hsat : satpV 0 a9 = a9 := if_pos (Or.inl h0)
    have d0 : (a9 / 1152921504606846976 != 0) = false := by rw [h0]; rfl
    obtain ⟨k0, k1, k2, k3, k4, k5, k6, k7, k8, k9, k10, k11⟩ := cells12 RC1
    have fr := RC1.free
    go_upto_if 36 with (fail)
    have RX : Row (((((((((((((w5.setCell ⟨q, 0, none⟩ (.int .u64 s0)).setCell ⟨q, 1, none⟩ (.int .u64 s1)).setCell ⟨q, 2, none⟩ (.int .u64 s2)).setCell ⟨q, 3, none⟩ (.int .u64 s3)).setCell ⟨q, 4, none⟩ (.int .u64 a4)).setCell ⟨q, 5, none⟩ (.int .u64 s5)).setCell ⟨q, 6, none⟩ (.int .u64 a6)).setCell ⟨q, 7, none⟩ (.int .u64 a7)).setCell ⟨q, 8, none⟩ (.int .u64 a8)).setCell ⟨q, 9, none⟩ (.int .u64 a9)).setCell ⟨q, 10, none⟩ (.int .u64 a10)).setCell ⟨q, 11, none⟩ (.int .u64 a11)).setCell ⟨q, 8, none⟩ (.int .u64 (bits .and .u64 a8 34))) q 24 (lC [s0, s1, s2, s3, a4, s5, a6, a7, bits .and .u64 a8 34, a9, a10, a11]) := (put12 RC1 rfl _ _ _ _ _ _ _ _ _ _ _ _).put 8 _
    have ZX : Row (((((((((((((w5.setCell ⟨q, 0, none⟩ (.int .u64 s0)).setCell ⟨q, 1, none⟩ (.int .u64 s1)).setCell ⟨q, 2, none⟩ (.int .u64 s2)).setCell ⟨q, 3, none⟩ (.int .u64 s3)).setCell ⟨q, 4, none⟩ (.int .u64 a4)).setCell ⟨q, 5, none⟩ (.int .u64 s5)).setCell ⟨q, 6, none⟩ (.int .u64 a6)).setCell ⟨q, 7, none⟩ (.int .u64 a7)).setCell ⟨q, 8, none⟩ (.int .u64 a8)).setCell ⟨q, 9, none⟩ (.int .u64 a9)).setCell ⟨q, 10, none⟩ (.int .u64 a10)).setCell ⟨q, 11, none⟩ (.int .u64 a11)).setCell ⟨q, 8, none⟩ (.int .u64 (bits .and .u64 a8 34))) (q + 1) 24 zC := Row.other (oth12 RZ1 (by omega) _ _ _ _ _ _ _ _ _ _ _ _) (by simp) _
    have GX : w.grownBy (((((((((((((w5.setCell ⟨q, 0, none⟩ (.int .u64 s0)).setCell ⟨q, 1, none⟩ (.int .u64 s1)).setCell ⟨q, 2, none⟩ (.int .u64 s2)).setCell ⟨q, 3, none⟩ (.int .u64 s3)).setCell ⟨q, 4, none⟩ (.int .u64 a4)).setCell ⟨q, 5, none⟩ (.int .u64 s5)).setCell ⟨q, 6, none⟩ (.int .u64 a6)).setCell ⟨q, 7, none⟩ (.int .u64 a7)).setCell ⟨q, 8, none⟩ (.int .u64 a8)).setCell ⟨q, 9, none⟩ (.int .u64 a9)).setCell ⟨q, 10, none⟩ (.int .u64 a10)).setCell ⟨q, 11, none⟩ (.int .u64 a11)).setCell ⟨q, 8, none⟩ (.int .u64 (bits .and .u64 a8 34))) none := gr_row (gr_set (gr12s (gr_none GW _) _ _ _ _ _ _ _ _ _ _ _ _) _) HQ.out
    generalize (((((((((((((w5.setCell ⟨q, 0, none⟩ (.int .u64 s0)).setCell ⟨q, 1, none⟩ (.int .u64 s1)).setCell ⟨q, 2, none⟩ (.int .u64 s2)).setCell ⟨q, 3, none⟩ (.int .u64 s3)).setCell ⟨q, 4, none⟩ (.int .u64 a4)).setCell ⟨q, 5, none⟩ (.int .u64 s5)).setCell ⟨q, 6, none⟩ (.int .u64 a6)).setCell ⟨q, 7, none⟩ (.int .u64 a7)).setCell ⟨q, 8, none⟩ (.int .u64 a8)).setCell ⟨q, 9, none⟩ (.int .u64 a9)).setCell ⟨q, 10, none⟩ (.int .u64 a10)).setCell ⟨q, 11, none⟩ (.int .u64 a11)).setCell ⟨q, 8, none⟩ (.int .u64 (bits .and .u64 a8 34))) = X at *
    clear k0 k1 k2 k3 k4 k5 k6 k7 k8 k9 k10 k11 fr RC1 RZ1 GW
    obtain ⟨k0, k1, k2, k3, k4, k5, k6, k7, k8, k9, k10, k11⟩ := cells12 RX
    have fr := RX.free
    obtain ⟨z0, z1, z2, z3, z4, z5, z6, z7, z8, z9, z10, z11⟩ := cells12 ZX
    have zf := ZX.free
    go_wp2_with fail
    exact ret_C rfl rfl rfl (c := [s0, s1, s2, s3, a4, s5, a6, a7, bits .and .u64 a8 34, a9, a10, a11]) (put12 ZX rfl _ _ _ _ _ _ _ _ _ _ _ _) rfl ⟨by rw [hsat]; rfl, gr12 GX (Nat.le_succ_of_le HQ.out) _ _ _ _ _ _ _ _ _ _ _ _⟩
  have d0 : (a9 / 1152921504606846976 != 0) = true := by simpa using h0
  by_cases h8 : a9 / 1152921504606846976 = 8
  · have hsat : satpV 0 a9 = a9 := if_pos (Or.inr h8)
    have d8 : (a9 / 1152921504606846976 != 8) = false := by rw [h8]; rfl
    obtain ⟨k0, k1, k2, k3, k4, k5, k6, k7, k8, k9, k10, k11⟩ := cells12 RC1
    have fr := RC1.free
    go_upto_if 36 with (fail)
    have RX : Row (((((((((((((w5.setCell ⟨q, 0, none⟩ (.int .u64 s0)).setCell ⟨q, 1, none⟩ (.int .u64 s1)).setCell ⟨q, 2, none⟩ (.int .u64 s2)).setCell ⟨q, 3, none⟩ (.int .u64 s3)).setCell ⟨q, 4, none⟩ (.int .u64 a4)).setCell ⟨q, 5, none⟩ (.int .u64 s5)).setCell ⟨q, 6, none⟩ (.int .u64 a6)).setCell ⟨q, 7, none⟩ (.int .u64 a7)).setCell ⟨q, 8, none⟩ (.int .u64 a8)).setCell ⟨q, 9, none⟩ (.int .u64 a9)).setCell ⟨q, 10, none⟩ (.int .u64 a10)).setCell ⟨q, 11, none⟩ (.int .u64 a11)).setCell ⟨q, 8, none⟩ (.int .u64 (bits .and .u64 a8 34))) q 24 (lC [s0, s1, s2, s3, a4, s5, a6, a7, bits .and .u64 a8 34, a9, a10, a11]) := (put12 RC1 rfl _ _ _ _ _ _ _ _ _ _ _ _).put 8 _
    have ZX : Row (((((((((((((w5.setCell ⟨q, 0, none⟩ (.int .u64 s0)).setCell ⟨q, 1, none⟩ (.int .u64 s1)).setCell ⟨q, 2, none⟩ (.int .u64 s2)).setCell ⟨q, 3, none⟩ (.int .u64 s3)).setCell ⟨q, 4, none⟩ (.int .u64 a4)).setCell ⟨q, 5, none⟩ (.int .u64 s5)).setCell ⟨q, 6, none⟩ (.int .u64 a6)).setCell ⟨q, 7, none⟩ (.int .u64 a7)).setCell ⟨q, 8, none⟩ (.int .u64 a8)).setCell ⟨q, 9, none⟩ (.int .u64 a9)).setCell ⟨q, 10, none⟩ (.int .u64 a10)).setCell ⟨q, 11, none⟩ (.int .u64 a11)).setCell ⟨q, 8, none⟩ (.int .u64 (bits .and .u64 a8 34))) (q + 1) 24 zC := Row.other (oth12 RZ1 (by omega) _ _ _ _ _ _ _ _ _ _ _ _) (by simp) _
    have GX : w.grownBy (((((((((((((w5.setCell ⟨q, 0, none⟩ (.int .u64 s0)).setCell ⟨q, 1, none⟩ (.int .u64 s1)).setCell ⟨q, 2, none⟩ (.int .u64 s2)).setCell ⟨q, 3, none⟩ (.int .u64 s3)).setCell ⟨q, 4, none⟩ (.int .u64 a4)).setCell ⟨q, 5, none⟩ (.int .u64 s5)).setCell ⟨q, 6, none⟩ (.int .u64 a6)).setCell ⟨q, 7, none⟩ (.int .u64 a7)).setCell ⟨q, 8, none⟩ (.int .u64 a8)).setCell ⟨q, 9, none⟩ (.int .u64 a9)).setCell ⟨q, 10, none⟩ (.int .u64 a10)).setCell ⟨q, 11, none⟩ (.int .u64 a11)).setCell ⟨q, 8, none⟩ (.int .u64 (bits .and .u64 a8 34))) none := gr_row (gr_set (gr12s (gr_none GW _) _ _ _ _ _ _ _ _ _ _ _ _) _) HQ.out
    generalize (((((((((((((w5.setCell ⟨q, 0, none⟩ (.int .u64 s0)).setCell ⟨q, 1, none⟩ (.int .u64 s1)).setCell ⟨q, 2, none⟩ (.int .u64 s2)).setCell ⟨q, 3, none⟩ (.int .u64 s3)).setCell ⟨q, 4, none⟩ (.int .u64 a4)).setCell ⟨q, 5, none⟩ (.int .u64 s5)).setCell ⟨q, 6, none⟩ (.int .u64 a6)).setCell ⟨q, 7, none⟩ (.int .u64 a7)).setCell ⟨q, 8, none⟩ (.int .u64 a8)).setCell ⟨q, 9, none⟩ (.int .u64 a9)).setCell ⟨q, 10, none⟩ (.int .u64 a10)).setCell ⟨q, 11, none⟩ (.int .u64 a11)).setCell ⟨q, 8, none⟩ (.int .u64 (bits .and .u64 a8 34))) = X at *
    clear k0 k1 k2 k3 k4 k5 k6 k7 k8 k9 k10 k11 fr RC1 RZ1 GW
    obtain ⟨k0, k1, k2, k3, k4, k5, k6, k7, k8, k9, k10, k11⟩ := cells12 RX
    have fr := RX.free
    obtain ⟨z0, z1, z2, z3, z4, z5, z6, z7, z8, z9, z10, z11⟩ := cells12 ZX
    have zf := ZX.free
    go_wp2_with fail
    exact ret_C rfl rfl rfl (c := [s0, s1, s2, s3, a4, s5, a6, a7, bits .and .u64 a8 34, a9, a10, a11]) (put12 ZX rfl _ _ _ _ _ _ _ _ _ _ _ _) rfl ⟨by rw [hsat]; rfl, gr12 GX (Nat.le_succ_of_le HQ.out) _ _ _ _ _ _ _ _ _ _ _ _⟩
  have d8 : (a9 / 1152921504606846976 != 8) = true := by simpa using h8
  have hsat : satpV 0 a9 = 0 := if_neg (by omega)
  obtain ⟨k0, k1, k2, k3, k4, k5, k6, k7, k8, k9, k10, k11⟩ := cells12 RC1
  have fr := RC1.free
  go_upto_if 36 with (fail)
  have RX : Row (((((((((((((w5.setCell ⟨q, 0, none⟩ (.int .u64 s0)).setCell ⟨q, 1, none⟩ (.int .u64 s1)).setCell ⟨q, 2, none⟩ (.int .u64 s2)).setCell ⟨q, 3, none⟩ (.int .u64 s3)).setCell ⟨q, 4, none⟩ (.int .u64 a4)).setCell ⟨q, 5, none⟩ (.int .u64 s5)).setCell ⟨q, 6, none⟩ (.int .u64 a6)).setCell ⟨q, 7, none⟩ (.int .u64 a7)).setCell ⟨q, 8, none⟩ (.int .u64 a8)).setCell ⟨q, 9, none⟩ (.int .u64 a9)).setCell ⟨q, 10, none⟩ (.int .u64 a10)).setCell ⟨q, 11, none⟩ (.int .u64 a11)).setCell ⟨q, 8, none⟩ (.int .u64 (bits .and .u64 a8 34))) q 24 (lC [s0, s1, s2, s3, a4, s5, a6, a7, bits .and .u64 a8 34, a9, a10, a11]) := (put12 RC1 rfl _ _ _ _ _ _ _ _ _ _ _ _).put 8 _
  have ZX : Row (((((((((((((w5.setCell ⟨q, 0, none⟩ (.int .u64 s0)).setCell ⟨q, 1, none⟩ (.int .u64 s1)).setCell ⟨q, 2, none⟩ (.int .u64 s2)).setCell ⟨q, 3, none⟩ (.int .u64 s3)).setCell ⟨q, 4, none⟩ (.int .u64 a4)).setCell ⟨q, 5, none⟩ (.int .u64 s5)).setCell ⟨q, 6, none⟩ (.int .u64 a6)).setCell ⟨q, 7, none⟩ (.int .u64 a7)).setCell ⟨q, 8, none⟩ (.int .u64 a8)).setCell ⟨q, 9, none⟩ (.int .u64 a9)).setCell ⟨q, 10, none⟩ (.int .u64 a10)).setCell ⟨q, 11, none⟩ (.int .u64 a11)).setCell ⟨q, 8, none⟩ (.int .u64 (bits .and .u64 a8 34))) (q + 1) 24 zC := Row.other (oth12 RZ1 (by omega) _ _ _ _ _ _ _ _ _ _ _ _) (by simp) _
  have GX : w.grownBy (((((((((((((w5.setCell ⟨q, 0, none⟩ (.int .u64 s0)).setCell ⟨q, 1, none⟩ (.int .u64 s1)).setCell ⟨q, 2, none⟩ (.int .u64 s2)).setCell ⟨q, 3, none⟩ (.int .u64 s3)).setCell ⟨q, 4, none⟩ (.int .u64 a4)).setCell ⟨q, 5, none⟩ (.int .u64 s5)).setCell ⟨q, 6, none⟩ (.int .u64 a6)).setCell ⟨q, 7, none⟩ (.int .u64 a7)).setCell ⟨q, 8, none⟩ (.int .u64 a8)).setCell ⟨q, 9, none⟩ (.int .u64 a9)).setCell ⟨q, 10, none⟩ (.int .u64 a10)).setCell ⟨q, 11, none⟩ (.int .u64 a11)).setCell ⟨q, 8, none⟩ (.int .u64 (bits .and .u64 a8 34))) none := gr_row (gr_set (gr12s (gr_none GW _) _ _ _ _ _ _ _ _ _ _ _ _) _) HQ.out
  generalize (((((((((((((w5.setCell ⟨q, 0, none⟩ (.int .u64 s0)).setCell ⟨q, 1, none⟩ (.int .u64 s1)).setCell ⟨q, 2, none⟩ (.int .u64 s2)).setCell ⟨q, 3, none⟩ (.int .u64 s3)).setCell ⟨q, 4, none⟩ (.int .u64 a4)).setCell ⟨q, 5, none⟩ (.int .u64 s5)).setCell ⟨q, 6, none⟩ (.int .u64 a6)).setCell ⟨q, 7, none⟩ (.int .u64 a7)).setCell ⟨q, 8, none⟩ (.int .u64 a8)).setCell ⟨q, 9, none⟩ (.int .u64 a9)).setCell ⟨q, 10, none⟩ (.int .u64 a10)).setCell ⟨q, 11, none⟩ (.int .u64 a11)).setCell ⟨q, 8, none⟩ (.int .u64 (bits .and .u64 a8 34))) = X at *
  clear k0 k1 k2 k3 k4 k5 k6 k7 k8 k9 k10 k11 fr RC1 RZ1 GW
  obtain ⟨k0, k1, k2, k3, k4, k5, k6, k7, k8, k9, k10, k11⟩ := cells12 RX
  have fr := RX.free
  obtain ⟨z0, z1, z2, z3, z4, z5, z6, z7, z8, z9, z10, z11⟩ := cells12 ZX
  have zf := ZX.free
  go_wp2_with fail
  exact ret_C rfl rfl rfl (c := [s0, s1, s2, s3, a4, s5, a6, a7, bits .and .u64 a8 34, 0, a10, a11]) (put12 (Row.other ZX (by simp) _) rfl _ _ _ _ _ _ _ _ _ _ _ _) rfl ⟨by rw [hsat]; rfl, gr12 (gr_row (gr_set (gr_none GX _) _) HQ.out) (Nat.le_succ_of_le HQ.out) _ _ _ _ _ _ _ _ _ _ _ _⟩
end Go.Proofs.YtkfmcbhoendocaaDoor
