/-
  Proved: for any most, any memory, and any things that are done, the law SpacePlays returns true: what is loaded, stored and fetched is as the document's own says, step by step, with what keeps leaves and without, and memory is the same behind it.
  Conditions: none beyond the statement's own.
-/
import Derived.Test.YtkfmcbhoendocaaRows
import Derived.Test.YtkfmcbhoendocaaLayO
import Derived.Lib.Hide
import Derived.Deep.Cut
import Derived.Test.YtkfmcbhoendocaaLayD
import Derived.Test.YtkfmcbhoendocaaLayL
import Derived.Test.YtkfmcbhoendocaaWalkQ
import Derived.StillTailTactics
import Derived.BigQuiet
import Derived.Deep.QuietTactic
import Derived.Deep.RegionHeld3
namespace Go.Proofs.Ytkfmcbhoendocaa.spacePlays
open Go Go.ChangeShapes Go.WideShapes Go.ChangeAt Go.RowKit W M D A C P K
set_option linter.unusedVariables false
set_option linter.unusedSimpArgs false

set_option maxRecDepth 100000 in
set_option maxHeartbeats 8000000 in
theorem walk (w : World) (a0 : Int) (w0 : (Lit.int .i64 a0).wf = true) (a1_0 : Int) (w1_0 : (Lit.int .u8 a1_0).wf = true) (A1_1 : Option Addr) (n1_1 k1_1 : Nat) (mc1_1 : n1_1 ≤ k1_1) (cc1_1 : k1_1 ≤ 9223372036854775807) (el1_1 : ∀ i, i < n1_1 → ∃ ad, A1_1 = some ad ∧ ad.block < w.heap.size ∧ ∃ (x0 : Int) (x1 : Int), (w.cell? (ad.add (i * 2 + 0)) = some (.int .u32 x0) ∧ (Lit.int .u32 x0).wf = true) ∧ (w.cell? (ad.add (i * 2 + 1)) = some (.int .u64 x1) ∧ (Lit.int .u64 x1).wf = true)) (A2 : Option Addr) (m2 c2 : Nat) (mc2 : m2 ≤ c2) (cc2 : c2 ≤ 9223372036854775807) (el2 : ∀ i, i < m2 → ∃ ad, A2 = some ad ∧ ad.block < w.heap.size ∧ ∃ (x0 : Int) (x1 : Int) (x2 : Int) (x3 : Int) (x4 : Int) (x5 : Int) (x6 : Int) (x7 : Int) (x8 : Int) (x9 : Int) (x10 : Int) (x11 : Int) (x12 : Int) (x13 : Int) (x14 : Int) (x15 : Int) (x16 : Int) (x17 : Int), (w.cell? (ad.add (i * 18 + 0)) = some (.int .u8 x0) ∧ (Lit.int .u8 x0).wf = true) ∧ (w.cell? (ad.add (i * 18 + 1)) = some (.int .u64 x1) ∧ (Lit.int .u64 x1).wf = true) ∧ (w.cell? (ad.add (i * 18 + 2)) = some (.int .u64 x2) ∧ (Lit.int .u64 x2).wf = true) ∧ (w.cell? (ad.add (i * 18 + 3)) = some (.int .u64 x3) ∧ (Lit.int .u64 x3).wf = true) ∧ (w.cell? (ad.add (i * 18 + 4)) = some (.int .u64 x4) ∧ (Lit.int .u64 x4).wf = true) ∧ (w.cell? (ad.add (i * 18 + 5)) = some (.int .u64 x5) ∧ (Lit.int .u64 x5).wf = true) ∧ (w.cell? (ad.add (i * 18 + 6)) = some (.int .u64 x6) ∧ (Lit.int .u64 x6).wf = true) ∧ (w.cell? (ad.add (i * 18 + 7)) = some (.int .u64 x7) ∧ (Lit.int .u64 x7).wf = true) ∧ (w.cell? (ad.add (i * 18 + 8)) = some (.int .u64 x8) ∧ (Lit.int .u64 x8).wf = true) ∧ (w.cell? (ad.add (i * 18 + 9)) = some (.int .u64 x9) ∧ (Lit.int .u64 x9).wf = true) ∧ (w.cell? (ad.add (i * 18 + 10)) = some (.int .u64 x10) ∧ (Lit.int .u64 x10).wf = true) ∧ (w.cell? (ad.add (i * 18 + 11)) = some (.int .u64 x11) ∧ (Lit.int .u64 x11).wf = true) ∧ (w.cell? (ad.add (i * 18 + 12)) = some (.int .u64 x12) ∧ (Lit.int .u64 x12).wf = true) ∧ (w.cell? (ad.add (i * 18 + 13)) = some (.int .i64 x13) ∧ (Lit.int .i64 x13).wf = true) ∧ (w.cell? (ad.add (i * 18 + 14)) = some (.int .i64 x14) ∧ (Lit.int .i64 x14).wf = true) ∧ (w.cell? (ad.add (i * 18 + 15)) = some (.int .u64 x15) ∧ (Lit.int .u64 x15).wf = true) ∧ (w.cell? (ad.add (i * 18 + 16)) = some (.int .u64 x16) ∧ (Lit.int .u64 x16).wf = true) ∧ (w.cell? (ad.add (i * 18 + 17)) = some (.int .u8 x17) ∧ (Lit.int .u8 x17).wf = true)) :
    Calls Try.prog 8 #[.int .i64 a0, .agg #[.int .u8 a1_0, .slice A1_1 n1_1 k1_1], .slice A2 m2 c2] w fun e w' => e = .returned (.bool true) ∧ Below w.heap.size w w' := by
  have hm0 : I64 a0 := bounds_i64 w0
  have ha : 0 ≤ a1_0 ∧ a1_0 ≤ 255 := bounds_u8 w1_0
  obtain ⟨f, h, hE⟩ := elems_of el1_1
  obtain ⟨bs, hbs⟩ : ∃ bs, bs = fillV f h (min n1_1 64) (List.replicate ((1 + a1_0 % 16).toNat * 4096) 0) := ⟨_, rfl⟩
  have BT := Lib.hid (fun W hW => both13_c a0 hm0 a1_0 ha A1_1 n1_1 k1_1 mc1_1 cc1_1 f h W hW)
  rw [← hbs] at BT
  have HE := Lib.hid hE
  obtain ⟨F, hOps⟩ := oqs_of el2
  have HO := Lib.hid hOps
  clear hbs w0 w1_0 el1_1 el2 hE hOps hm0
  have HR0 := Lib.hid (Row.fresh w 78 [.int .u8 a1_0, .slice A1_1 n1_1 k1_1])
  have HG0 := Lib.hid (gr_alloc (gr_refl w none) (.cells #[.int .u8 a1_0, .slice A1_1 n1_1 k1_1] 78))
  generalize T.mostV a0 = most at *
  go_enter Try.func8, Try.ntmps8
  go_wp2_with fail
  generalize w.alloc (.cells #[.int .u8 a1_0, .slice A1_1 n1_1 k1_1] 78) = V at *
  refine (shown13_c _).mono ?_
  rintro e w1 ⟨rfl, hG⟩
  have hR1 := HR0.out.grown hG (by simp)
  have hG1 := gr_trans HG0.out hG
  have hE1 := (HE.out.turn (w' := w1) (fun ad had => cell_grown hG1 had (by simp))).more hG1.size
  clear HR0 HG0 HE hG
  obtain ⟨b, hb⟩ : ∃ b, b = w.heap.size := ⟨_, rfl⟩
  rw [← hb] at hR1 ⊢
  have HBB := Lib.hid hb
  clear hb
  have m0 : w1.cell? ⟨b, 0, none⟩ = some (.int .u8 a1_0) := hR1.cell 0
  have m1 : w1.cell? ⟨b, 1, none⟩ = some (.slice A1_1 n1_1 k1_1) := hR1.cell 1
  have lt := hR1.lt
  go_wp2_with fail
  refine (BT.out _ hE1).mono ?_
  rintro e w2 ⟨pm, gm, pm', gm', ys, u, tk, kp, rfl, hS, hQ, hG, hu, hg', hne⟩
  have hG2 := gr_trans hG1 hG
  have hT2 := hR1.grown hG (by simp)
  have hlo : w.heap.size ≤ u ∧ w.heap.size ≤ gm' ∧ gm ≠ gm' := by have := hG1.size; omega
  replace hS := hS.less hG1.size
  obtain ⟨o, ho⟩ : ∃ o, vP tk = o := ⟨_, rfl⟩
  have HOO := Lib.hid ho
  rw [vS_eq, ho]
  clear ho
  have hg := gr_alloc (gr_refl w2 none) (.cells #[.pointer (some ⟨pm, 0, none⟩), .pointer o] 81)
  have hL : Sg w 78 b [.int .u8 a1_0, .slice A1_1 n1_1 k1_1] w2.heap.size pm gm o bs tk ys pm' gm' bs u kp most 0 0 [] [] (w2.alloc (.cells #[.pointer (some ⟨pm, 0, none⟩), .pointer o] 81)) := ⟨hT2.grown hg (by simp), new2 w2 81 (.pointer (some ⟨pm, 0, none⟩)) (.pointer o), hS.keep hg, hQ.keep hg, gr_trans hG2 hg, hlo⟩
  clear hR1 hG hG1 hG2 hE1 m0 m1 lt BT hT2 hS hQ hu hg' hne hlo hg
  have HL := Lib.hid hL
  clear hL
  go_upto_region 3 with (fail)
  generalize w2.alloc (.cells #[.pointer (some ⟨pm, 0, none⟩), .pointer o] 81) = V2 at *
  generalize w2.heap.size = s at *
  go_wp2_with fail
  go_loopw [11] (fun i wr => ∃ (j : Nat) (n : Int) (L : List T.Lf) (bs : List Int) (T0 : TypeId) (t0 : Nat) (l0 : List Value), i = .int .i64 j ∧ j ≤ m2 ∧ j ≤ 30 ∧ Sg w T0 t0 l0 s pm gm o bs tk ys pm' gm' bs u kp most n n L L wr) (fun i _ => 30 - (intOf i).toNat)
  case atStart => exact ⟨0, _, _, _, _, _, _, rfl, by omega, by omega, HL.out⟩
  case round =>
    clear HL
    obtain ⟨j, n, L, bs, T0, t0, l0, rfl, hj, hj30, hL⟩ := hrel
    have HL := Lib.hid hL
    by_cases hlt : j < m2
    · by_cases h30 : j < 30
      · obtain ⟨ad, rfl, hadb, hcell, hfine⟩ := (HO.out.go hL.gr) j hlt
        have hadw : ad.block < wr.heap.size := by have := hL.gr.size; omega
        obtain ⟨⟨kd, cc, pr, hw, va, xx, nn⟩, ho⟩ : ∃ o, o = F j := ⟨_, rfl⟩
        rw [← ho] at hcell hfine
        obtain ⟨hkd, hcc, hpr, hhw, hva, hxx, hnn⟩ := hfine
        simp only at hkd hcc hpr hhw hva hxx hnn
        obtain ⟨c0, c1, c2, c3, c4, c5, c6, c7, c8, c9, c10, c11, rfl⟩ := twelve hcc.1
        clear ho
        have HLD := Lib.hid (show ∀ q v, ([.int .u8 kd, .int .u64 c0, .int .u64 c1, .int .u64 c2, .int .u64 c3, .int .u64 c4, .int .u64 c5, .int .u64 c6, .int .u64 c7, .int .u64 c8, .int .u64 c9, .int .u64 c10, .int .u64 c11, .int .i64 pr, .int .i64 hw, .int .u64 va, .int .u64 xx, .int .u8 nn] : List Value)[q]? = some v → wr.cell? ((ad.add (j * 18)).add q) = some v from fun q v hq => by
          have hql : q < 18 := (List.getElem?_eq_some_iff.1 hq).1
          rw [Deep.add_add, hcell q hql]
          exact hq)
        have HFS := Lib.hid (fresh_set wr 86 [.int .u8 0, .int .u64 0, .int .u64 0, .int .u64 0, .int .u64 0, .int .u64 0, .int .u64 0, .int .u64 0, .int .u64 0, .int .u64 0, .int .u64 0, .int .u64 0, .int .u64 0, .int .i64 0, .int .i64 0, .int .u64 0, .int .u64 0, .int .u8 0] (opQ ⟨kd, [c0, c1, c2, c3, c4, c5, c6, c7, c8, c9, c10, c11], pr, hw, va, xx, nn⟩) rfl)
        have HX := Lib.hid (And.intro hcc (And.intro hpr (And.intro hhw (And.intro hva hxx))))
        clear hcell hL hcc hpr hhw hva hxx hadb
        go_upto_region 9 with (first | (with_reducible refine wpList_load_at rfl 86 (.tmp 59) rfl (ad.add (j * 18)) rfl [.int .u8 kd, .int .u64 c0, .int .u64 c1, .int .u64 c2, .int .u64 c3, .int .u64 c4, .int .u64 c5, .int .u64 c6, .int .u64 c7, .int .u64 c8, .int .u64 c9, .int .u64 c10, .int .u64 c11, .int .i64 pr, .int .i64 hw, .int .u64 va, .int .u64 xx, .int .u8 nn] _ HLD.out Try.underlying86 rfl (by kernel_rfl) ?_) | (refine wpList_store_oq rfl (.tmp 12) (.tmp 60) rfl ⟨kd, [c0, c1, c2, c3, c4, c5, c6, c7, c8, c9, c10, c11], pr, hw, va, xx, nn⟩ rfl [.int .u8 0, .int .u64 0, .int .u64 0, .int .u64 0, .int .u64 0, .int .u64 0, .int .u64 0, .int .u64 0, .int .u64 0, .int .u64 0, .int .u64 0, .int .u64 0, .int .u64 0, .int .i64 0, .int .i64 0, .int .u64 0, .int .u64 0, .int .u8 0] rfl rfl rfl ?_; obtain ⟨hT0, hGS⟩ := HFS.out; have hL0 := (HL.out.keep hGS).op hT0; clear HFS hGS HLD hadw HL; generalize ((wr.alloc (.cells ([.int .u8 0, .int .u64 0, .int .u64 0, .int .u64 0, .int .u64 0, .int .u64 0, .int .u64 0, .int .u64 0, .int .u64 0, .int .u64 0, .int .u64 0, .int .u64 0, .int .u64 0, .int .i64 0, .int .i64 0, .int .u64 0, .int .u64 0, .int .u8 0] : List Value).toArray 86)).setCells wr.heap.size 0 (opQ ⟨kd, [c0, c1, c2, c3, c4, c5, c6, c7, c8, c9, c10, c11], pr, hw, va, xx, nn⟩)) = U at *; generalize wr.heap.size = t at *; have HB := Lib.hid hL0; clear hL0 hT0))
        have k0 : U.cell? ⟨t, 0, none⟩ = some (.int .u8 kd) := HB.out.opr.cell 0
        have k17 : U.cell? ⟨t, 17, none⟩ = some (.int .u8 nn) := HB.out.opr.cell 17
        have lt := HB.out.opr.lt
        have SZ := Lib.hid (size_c nn hnn U)
        have hm4 := sizeN_is nn
        have hand := M.and_3 kd hkd
        clear hnn
        generalize sizeN nn = m at *
        go_wp2_with fail
        refine SZ.out.mono ?_
        rintro e w3 ⟨rfl, rfl⟩
        go_upto_block 2 with (fail)
        clear k0 k17 lt SZ
        obtain ⟨hcc, hpr, hhw, hva, hxx⟩ := HX.out
        clear HX
        have hmi : I64 (m : Int) := by unfold I64; omega
        have hm8 : 0 ≤ kd % 4 ∧ kd % 4 < 4 := by omega
        clear hand hkd
        generalize kd % 4 = m8 at *
        obtain rfl | rfl | rfl | rfl : m8 = 0 ∨ m8 = 1 ∨ m8 = 2 ∨ m8 = 3 := by omega
        all_goals clear hm8
        · obtain ⟨x1, hx1⟩ : ∃ x, S.sR bs L (gC [c0, c1, c2, c3, c4, c5, c6, c7, c8, c9, c10, c11] 9) (gC [c0, c1, c2, c3, c4, c5, c6, c7, c8, c9, c10, c11] 0) pr hw va m = x := ⟨_, rfl⟩
          obtain ⟨R, hR1⟩ : ∃ x, S.sF bs L (gC [c0, c1, c2, c3, c4, c5, c6, c7, c8, c9, c10, c11] 9) (gC [c0, c1, c2, c3, c4, c5, c6, c7, c8, c9, c10, c11] 0) pr hw va m = x := ⟨_, rfl⟩
          obtain ⟨L1, hL1⟩ : ∃ x, T.toLV bs most L (gC [c0, c1, c2, c3, c4, c5, c6, c7, c8, c9, c10, c11] 9) (gC [c0, c1, c2, c3, c4, c5, c6, c7, c8, c9, c10, c11] 0) pr hw va = x := ⟨_, rfl⟩
          obtain ⟨n1, hn1⟩ : ∃ x, T.toNV L n (gC [c0, c1, c2, c3, c4, c5, c6, c7, c8, c9, c10, c11] 9) (gC [c0, c1, c2, c3, c4, c5, c6, c7, c8, c9, c10, c11] 0) pr hw va = x := ⟨_, rfl⟩
          have T1 := Lib.hid (fun W hW => STo_c pm gm bs [c0, c1, c2, c3, c4, c5, c6, c7, c8, c9, c10, c11] hcc pr hw va m hpr hhw hva hmi w.heap.size tk most n L W hW)
          have T2 := Lib.hid (fun W hW => rSTo_c ys pm' gm' bs [c0, c1, c2, c3, c4, c5, c6, c7, c8, c9, c10, c11] hcc pr hw va m hpr hhw hva hmi u kp most n L W hW)
          rw [hx1, hR1, hL1, hn1] at T1 T2
          clear hx1 hR1 hL1 hn1
          rw [show vC [c0, c1, c2, c3, c4, c5, c6, c7, c8, c9, c10, c11] = .agg #[.int .u64 c0, .int .u64 c1, .int .u64 c2, .int .u64 c3, .int .u64 c4, .int .u64 c5, .int .u64 c6, .int .u64 c7, .int .u64 c8, .int .u64 c9, .int .u64 c10, .int .u64 c11] from rfl] at T1 T2
          rw [vS_eq, HOO.out] at T1
          unfold vF vFault at T1 T2
          have k1 : U.cell? ⟨t, 1, none⟩ = some (.int .u64 c0) := HB.out.opr.cell 1
          have k2 : U.cell? ⟨t, 2, none⟩ = some (.int .u64 c1) := HB.out.opr.cell 2
          have k3 : U.cell? ⟨t, 3, none⟩ = some (.int .u64 c2) := HB.out.opr.cell 3
          have k4 : U.cell? ⟨t, 4, none⟩ = some (.int .u64 c3) := HB.out.opr.cell 4
          have k5 : U.cell? ⟨t, 5, none⟩ = some (.int .u64 c4) := HB.out.opr.cell 5
          have k6 : U.cell? ⟨t, 6, none⟩ = some (.int .u64 c5) := HB.out.opr.cell 6
          have k7 : U.cell? ⟨t, 7, none⟩ = some (.int .u64 c6) := HB.out.opr.cell 7
          have k8 : U.cell? ⟨t, 8, none⟩ = some (.int .u64 c7) := HB.out.opr.cell 8
          have k9 : U.cell? ⟨t, 9, none⟩ = some (.int .u64 c8) := HB.out.opr.cell 9
          have k10 : U.cell? ⟨t, 10, none⟩ = some (.int .u64 c9) := HB.out.opr.cell 10
          have k11 : U.cell? ⟨t, 11, none⟩ = some (.int .u64 c10) := HB.out.opr.cell 11
          have k12 : U.cell? ⟨t, 12, none⟩ = some (.int .u64 c11) := HB.out.opr.cell 12
          have k13 : U.cell? ⟨t, 13, none⟩ = some (.int .i64 pr) := HB.out.opr.cell 13
          have k14 : U.cell? ⟨t, 14, none⟩ = some (.int .i64 hw) := HB.out.opr.cell 14
          have k15 : U.cell? ⟨t, 15, none⟩ = some (.int .u64 va) := HB.out.opr.cell 15
          have lt := HB.out.opr.lt
          have s0 : U.cell? ⟨s, 0, none⟩ = some (.pointer (some ⟨pm, 0, none⟩)) := HB.out.spa.cell 0
          have s1 : U.cell? ⟨s, 1, none⟩ = some (.pointer o) := HB.out.spa.cell 1
          have ls := HB.out.spa.lt
          go_wp2_with fail
          refine (T1.out _ HB.out.one).mono ?_
          rintro e w5 ⟨rfl, hS, hF⟩
          have hB := HB.out.prog (by decide) (by decide) (by decide) hS hF
          have hA := gr_alloc (gr_refl w5 none) (.cells #[.bool R.isf, .int .i64 R.cause, .int .u64 R.val] 48)
          have H6 := Lib.hid (And.intro (hB.keep hA) (newF w5 (.bool R.isf) (.int .i64 R.cause) (.int .u64 R.val)))
          clear hS hF hB hA T1
          clear k1 k2 k3 k4 k5 k6 k7 k8 k9 k10 k11 k12 k13 k14 k15 lt s0 s1 ls
          have k1 : (w5.alloc (.cells #[.bool R.isf, .int .i64 R.cause, .int .u64 R.val] 48)).cell? ⟨t, 1, none⟩ = some (.int .u64 c0) := H6.out.1.opr.cell 1
          have k2 : (w5.alloc (.cells #[.bool R.isf, .int .i64 R.cause, .int .u64 R.val] 48)).cell? ⟨t, 2, none⟩ = some (.int .u64 c1) := H6.out.1.opr.cell 2
          have k3 : (w5.alloc (.cells #[.bool R.isf, .int .i64 R.cause, .int .u64 R.val] 48)).cell? ⟨t, 3, none⟩ = some (.int .u64 c2) := H6.out.1.opr.cell 3
          have k4 : (w5.alloc (.cells #[.bool R.isf, .int .i64 R.cause, .int .u64 R.val] 48)).cell? ⟨t, 4, none⟩ = some (.int .u64 c3) := H6.out.1.opr.cell 4
          have k5 : (w5.alloc (.cells #[.bool R.isf, .int .i64 R.cause, .int .u64 R.val] 48)).cell? ⟨t, 5, none⟩ = some (.int .u64 c4) := H6.out.1.opr.cell 5
          have k6 : (w5.alloc (.cells #[.bool R.isf, .int .i64 R.cause, .int .u64 R.val] 48)).cell? ⟨t, 6, none⟩ = some (.int .u64 c5) := H6.out.1.opr.cell 6
          have k7 : (w5.alloc (.cells #[.bool R.isf, .int .i64 R.cause, .int .u64 R.val] 48)).cell? ⟨t, 7, none⟩ = some (.int .u64 c6) := H6.out.1.opr.cell 7
          have k8 : (w5.alloc (.cells #[.bool R.isf, .int .i64 R.cause, .int .u64 R.val] 48)).cell? ⟨t, 8, none⟩ = some (.int .u64 c7) := H6.out.1.opr.cell 8
          have k9 : (w5.alloc (.cells #[.bool R.isf, .int .i64 R.cause, .int .u64 R.val] 48)).cell? ⟨t, 9, none⟩ = some (.int .u64 c8) := H6.out.1.opr.cell 9
          have k10 : (w5.alloc (.cells #[.bool R.isf, .int .i64 R.cause, .int .u64 R.val] 48)).cell? ⟨t, 10, none⟩ = some (.int .u64 c9) := H6.out.1.opr.cell 10
          have k11 : (w5.alloc (.cells #[.bool R.isf, .int .i64 R.cause, .int .u64 R.val] 48)).cell? ⟨t, 11, none⟩ = some (.int .u64 c10) := H6.out.1.opr.cell 11
          have k12 : (w5.alloc (.cells #[.bool R.isf, .int .i64 R.cause, .int .u64 R.val] 48)).cell? ⟨t, 12, none⟩ = some (.int .u64 c11) := H6.out.1.opr.cell 12
          have k13 : (w5.alloc (.cells #[.bool R.isf, .int .i64 R.cause, .int .u64 R.val] 48)).cell? ⟨t, 13, none⟩ = some (.int .i64 pr) := H6.out.1.opr.cell 13
          have k14 : (w5.alloc (.cells #[.bool R.isf, .int .i64 R.cause, .int .u64 R.val] 48)).cell? ⟨t, 14, none⟩ = some (.int .i64 hw) := H6.out.1.opr.cell 14
          have k15 : (w5.alloc (.cells #[.bool R.isf, .int .i64 R.cause, .int .u64 R.val] 48)).cell? ⟨t, 15, none⟩ = some (.int .u64 va) := H6.out.1.opr.cell 15
          have lt := H6.out.1.opr.lt
          go_wp2_with fail
          refine (T2.out _ H6.out.1.two).mono ?_
          rintro e w7 ⟨rfl, hQ, hfq⟩
          have hB := H6.out.1.doc (by decide) (by decide) hQ hfq
          have r5 := H6.out.1.ownD H6.out.2 (by decide) (by decide) hfq
          have hA := gr_alloc (gr_refl w7 none) (.cells #[.bool R.isf, .int .i64 R.cause, .int .u64 R.val] 48)
          have hB8 := hB.keep hA
          have r6 := r5.grown hA (by simp)
          have r7 := newF w7 (.bool R.isf) (.int .i64 R.cause) (.int .u64 R.val)
          clear hQ hfq hB r5 hA T2 H6
          clear k1 k2 k3 k4 k5 k6 k7 k8 k9 k10 k11 k12 k13 k14 k15 lt
          obtain ⟨x0, x1', x2⟩ := cells3 r6
          obtain ⟨y0, y1, y2⟩ := cells3 r7
          have lx := r6.lt
          have ly := r7.lt
          have nf := fun W => neq_Fs R.isf R.cause R.val W
          have H8 := Lib.hid hB8
          clear r6 r7 hB8
          go_wp2_with fail
          go_roundw
          case rel => exact ⟨j + 1, n1, L1, bs, _, _, _, by go_num, by omega, by omega, H8.out⟩
          case measure => simp [intOf]; omega
        · obtain ⟨r, hr⟩ : ∃ r, S.realsV bs most (gC [c0, c1, c2, c3, c4, c5, c6, c7, c8, c9, c10, c11] 9) (gC [c0, c1, c2, c3, c4, c5, c6, c7, c8, c9, c10, c11] 0) pr 1 va m L n = r := ⟨_, rfl⟩
          have T1 := Lib.hid (fun W hW => SLoad_c pm gm bs [c0, c1, c2, c3, c4, c5, c6, c7, c8, c9, c10, c11] hcc pr va m hpr hva hm4 w.heap.size tk most n L W hW r hr)
          have T2 := Lib.hid (fun W hW => rSLoad_c ys pm' gm' bs [c0, c1, c2, c3, c4, c5, c6, c7, c8, c9, c10, c11] hcc pr va m hpr hva hm4 u kp most n L W hW r hr)
          clear hr
          obtain ⟨R, all, L1, n1⟩ := r
          simp only at T1 T2
          generalize S.loadX bs all = x1 at *
          rw [show vC [c0, c1, c2, c3, c4, c5, c6, c7, c8, c9, c10, c11] = .agg #[.int .u64 c0, .int .u64 c1, .int .u64 c2, .int .u64 c3, .int .u64 c4, .int .u64 c5, .int .u64 c6, .int .u64 c7, .int .u64 c8, .int .u64 c9, .int .u64 c10, .int .u64 c11] from rfl] at T1 T2
          rw [vS_eq, HOO.out] at T1
          unfold vF vFault at T1 T2
          have k1 : U.cell? ⟨t, 1, none⟩ = some (.int .u64 c0) := HB.out.opr.cell 1
          have k2 : U.cell? ⟨t, 2, none⟩ = some (.int .u64 c1) := HB.out.opr.cell 2
          have k3 : U.cell? ⟨t, 3, none⟩ = some (.int .u64 c2) := HB.out.opr.cell 3
          have k4 : U.cell? ⟨t, 4, none⟩ = some (.int .u64 c3) := HB.out.opr.cell 4
          have k5 : U.cell? ⟨t, 5, none⟩ = some (.int .u64 c4) := HB.out.opr.cell 5
          have k6 : U.cell? ⟨t, 6, none⟩ = some (.int .u64 c5) := HB.out.opr.cell 6
          have k7 : U.cell? ⟨t, 7, none⟩ = some (.int .u64 c6) := HB.out.opr.cell 7
          have k8 : U.cell? ⟨t, 8, none⟩ = some (.int .u64 c7) := HB.out.opr.cell 8
          have k9 : U.cell? ⟨t, 9, none⟩ = some (.int .u64 c8) := HB.out.opr.cell 9
          have k10 : U.cell? ⟨t, 10, none⟩ = some (.int .u64 c9) := HB.out.opr.cell 10
          have k11 : U.cell? ⟨t, 11, none⟩ = some (.int .u64 c10) := HB.out.opr.cell 11
          have k12 : U.cell? ⟨t, 12, none⟩ = some (.int .u64 c11) := HB.out.opr.cell 12
          have k13 : U.cell? ⟨t, 13, none⟩ = some (.int .i64 pr) := HB.out.opr.cell 13
          have k15 : U.cell? ⟨t, 15, none⟩ = some (.int .u64 va) := HB.out.opr.cell 15
          have lt := HB.out.opr.lt
          have s0 : U.cell? ⟨s, 0, none⟩ = some (.pointer (some ⟨pm, 0, none⟩)) := HB.out.spa.cell 0
          have s1 : U.cell? ⟨s, 1, none⟩ = some (.pointer o) := HB.out.spa.cell 1
          have ls := HB.out.spa.lt
          go_wp2_with fail
          refine (T1.out _ HB.out.one).mono ?_
          rintro e w5 ⟨rfl, hS, hF⟩
          have hB := HB.out.prog (by decide) (by decide) (by decide) hS hF
          have hA := gr_alloc (gr_refl w5 none) (.cells #[.bool R.isf, .int .i64 R.cause, .int .u64 R.val] 48)
          have H6 := Lib.hid (And.intro (hB.keep hA) (newF w5 (.bool R.isf) (.int .i64 R.cause) (.int .u64 R.val)))
          clear hS hF hB hA T1
          clear k1 k2 k3 k4 k5 k6 k7 k8 k9 k10 k11 k12 k13 k15 lt s0 s1 ls
          have k1 : (w5.alloc (.cells #[.bool R.isf, .int .i64 R.cause, .int .u64 R.val] 48)).cell? ⟨t, 1, none⟩ = some (.int .u64 c0) := H6.out.1.opr.cell 1
          have k2 : (w5.alloc (.cells #[.bool R.isf, .int .i64 R.cause, .int .u64 R.val] 48)).cell? ⟨t, 2, none⟩ = some (.int .u64 c1) := H6.out.1.opr.cell 2
          have k3 : (w5.alloc (.cells #[.bool R.isf, .int .i64 R.cause, .int .u64 R.val] 48)).cell? ⟨t, 3, none⟩ = some (.int .u64 c2) := H6.out.1.opr.cell 3
          have k4 : (w5.alloc (.cells #[.bool R.isf, .int .i64 R.cause, .int .u64 R.val] 48)).cell? ⟨t, 4, none⟩ = some (.int .u64 c3) := H6.out.1.opr.cell 4
          have k5 : (w5.alloc (.cells #[.bool R.isf, .int .i64 R.cause, .int .u64 R.val] 48)).cell? ⟨t, 5, none⟩ = some (.int .u64 c4) := H6.out.1.opr.cell 5
          have k6 : (w5.alloc (.cells #[.bool R.isf, .int .i64 R.cause, .int .u64 R.val] 48)).cell? ⟨t, 6, none⟩ = some (.int .u64 c5) := H6.out.1.opr.cell 6
          have k7 : (w5.alloc (.cells #[.bool R.isf, .int .i64 R.cause, .int .u64 R.val] 48)).cell? ⟨t, 7, none⟩ = some (.int .u64 c6) := H6.out.1.opr.cell 7
          have k8 : (w5.alloc (.cells #[.bool R.isf, .int .i64 R.cause, .int .u64 R.val] 48)).cell? ⟨t, 8, none⟩ = some (.int .u64 c7) := H6.out.1.opr.cell 8
          have k9 : (w5.alloc (.cells #[.bool R.isf, .int .i64 R.cause, .int .u64 R.val] 48)).cell? ⟨t, 9, none⟩ = some (.int .u64 c8) := H6.out.1.opr.cell 9
          have k10 : (w5.alloc (.cells #[.bool R.isf, .int .i64 R.cause, .int .u64 R.val] 48)).cell? ⟨t, 10, none⟩ = some (.int .u64 c9) := H6.out.1.opr.cell 10
          have k11 : (w5.alloc (.cells #[.bool R.isf, .int .i64 R.cause, .int .u64 R.val] 48)).cell? ⟨t, 11, none⟩ = some (.int .u64 c10) := H6.out.1.opr.cell 11
          have k12 : (w5.alloc (.cells #[.bool R.isf, .int .i64 R.cause, .int .u64 R.val] 48)).cell? ⟨t, 12, none⟩ = some (.int .u64 c11) := H6.out.1.opr.cell 12
          have k13 : (w5.alloc (.cells #[.bool R.isf, .int .i64 R.cause, .int .u64 R.val] 48)).cell? ⟨t, 13, none⟩ = some (.int .i64 pr) := H6.out.1.opr.cell 13
          have k15 : (w5.alloc (.cells #[.bool R.isf, .int .i64 R.cause, .int .u64 R.val] 48)).cell? ⟨t, 15, none⟩ = some (.int .u64 va) := H6.out.1.opr.cell 15
          have lt := H6.out.1.opr.lt
          go_wp2_with fail
          refine (T2.out _ H6.out.1.two).mono ?_
          rintro e w7 ⟨rfl, hQ, hfq⟩
          have hB := H6.out.1.doc (by decide) (by decide) hQ hfq
          have r5 := H6.out.1.ownD H6.out.2 (by decide) (by decide) hfq
          have hA := gr_alloc (gr_refl w7 none) (.cells #[.bool R.isf, .int .i64 R.cause, .int .u64 R.val] 48)
          have hB8 := hB.keep hA
          have r6 := r5.grown hA (by simp)
          have r7 := newF w7 (.bool R.isf) (.int .i64 R.cause) (.int .u64 R.val)
          clear hQ hfq hB r5 hA T2 H6
          clear k1 k2 k3 k4 k5 k6 k7 k8 k9 k10 k11 k12 k13 k15 lt
          obtain ⟨x0, x1', x2⟩ := cells3 r6
          obtain ⟨y0, y1, y2⟩ := cells3 r7
          have lx := r6.lt
          have ly := r7.lt
          have nf := fun W => neq_Fs R.isf R.cause R.val W
          have H8 := Lib.hid hB8
          clear r6 r7 hB8
          go_wp2_with fail
          go_roundw
          case rel => exact ⟨j + 1, n1, L1, bs, _, _, _, by go_num, by omega, by omega, H8.out⟩
          case measure => simp [intOf]; omega
        · obtain ⟨r, hr⟩ : ∃ r, S.realsV bs most (gC [c0, c1, c2, c3, c4, c5, c6, c7, c8, c9, c10, c11] 9) (gC [c0, c1, c2, c3, c4, c5, c6, c7, c8, c9, c10, c11] 0) pr 2 va m L n = r := ⟨_, rfl⟩
          have T1 := Lib.hid (fun W hW => SStore_c pm gm bs [c0, c1, c2, c3, c4, c5, c6, c7, c8, c9, c10, c11] hcc pr va m xx hpr hva hm4 hxx w.heap.size tk most n L W hW r hr)
          have T2 := Lib.hid (fun W hW => rSStore_c ys pm' gm' bs [c0, c1, c2, c3, c4, c5, c6, c7, c8, c9, c10, c11] hcc pr va m xx hpr hva hm4 hxx u kp most n L W hW r hr)
          clear hr
          obtain ⟨R, all, L1, n1⟩ := r
          simp only at T1 T2
          generalize S.storeX bs all xx = bs9 at *
          rw [show vC [c0, c1, c2, c3, c4, c5, c6, c7, c8, c9, c10, c11] = .agg #[.int .u64 c0, .int .u64 c1, .int .u64 c2, .int .u64 c3, .int .u64 c4, .int .u64 c5, .int .u64 c6, .int .u64 c7, .int .u64 c8, .int .u64 c9, .int .u64 c10, .int .u64 c11] from rfl] at T1 T2
          rw [vS_eq, HOO.out] at T1
          unfold vF vFault at T1 T2
          have k1 : U.cell? ⟨t, 1, none⟩ = some (.int .u64 c0) := HB.out.opr.cell 1
          have k2 : U.cell? ⟨t, 2, none⟩ = some (.int .u64 c1) := HB.out.opr.cell 2
          have k3 : U.cell? ⟨t, 3, none⟩ = some (.int .u64 c2) := HB.out.opr.cell 3
          have k4 : U.cell? ⟨t, 4, none⟩ = some (.int .u64 c3) := HB.out.opr.cell 4
          have k5 : U.cell? ⟨t, 5, none⟩ = some (.int .u64 c4) := HB.out.opr.cell 5
          have k6 : U.cell? ⟨t, 6, none⟩ = some (.int .u64 c5) := HB.out.opr.cell 6
          have k7 : U.cell? ⟨t, 7, none⟩ = some (.int .u64 c6) := HB.out.opr.cell 7
          have k8 : U.cell? ⟨t, 8, none⟩ = some (.int .u64 c7) := HB.out.opr.cell 8
          have k9 : U.cell? ⟨t, 9, none⟩ = some (.int .u64 c8) := HB.out.opr.cell 9
          have k10 : U.cell? ⟨t, 10, none⟩ = some (.int .u64 c9) := HB.out.opr.cell 10
          have k11 : U.cell? ⟨t, 11, none⟩ = some (.int .u64 c10) := HB.out.opr.cell 11
          have k12 : U.cell? ⟨t, 12, none⟩ = some (.int .u64 c11) := HB.out.opr.cell 12
          have k13 : U.cell? ⟨t, 13, none⟩ = some (.int .i64 pr) := HB.out.opr.cell 13
          have k15 : U.cell? ⟨t, 15, none⟩ = some (.int .u64 va) := HB.out.opr.cell 15
          have k16 : U.cell? ⟨t, 16, none⟩ = some (.int .u64 xx) := HB.out.opr.cell 16
          have lt := HB.out.opr.lt
          have s0 : U.cell? ⟨s, 0, none⟩ = some (.pointer (some ⟨pm, 0, none⟩)) := HB.out.spa.cell 0
          have s1 : U.cell? ⟨s, 1, none⟩ = some (.pointer o) := HB.out.spa.cell 1
          have ls := HB.out.spa.lt
          go_wp2_with fail
          refine (T1.out _ HB.out.one).mono ?_
          rintro e w5 ⟨v1, rfl, hAd, hS, hF⟩
          have hB := HB.out.prog (by decide) (by decide) (by decide) hS hF
          have hA := gr_alloc (gr_refl w5 none) (.cells #[.bool R.isf, .int .i64 R.cause, .int .u64 R.val] 48)
          replace hAd := adr_keep hAd hA
          obtain ⟨hl8, A1, cp1, rfl, -⟩ := adr_shape hAd
          have HAD := Lib.hid hAd
          clear hAd
          have H6 := Lib.hid (And.intro (hB.keep hA) (newF w5 (.bool R.isf) (.int .i64 R.cause) (.int .u64 R.val)))
          clear hS hF hB hA T1
          clear k1 k2 k3 k4 k5 k6 k7 k8 k9 k10 k11 k12 k13 k15 k16 lt s0 s1 ls
          have k1 : (w5.alloc (.cells #[.bool R.isf, .int .i64 R.cause, .int .u64 R.val] 48)).cell? ⟨t, 1, none⟩ = some (.int .u64 c0) := H6.out.1.opr.cell 1
          have k2 : (w5.alloc (.cells #[.bool R.isf, .int .i64 R.cause, .int .u64 R.val] 48)).cell? ⟨t, 2, none⟩ = some (.int .u64 c1) := H6.out.1.opr.cell 2
          have k3 : (w5.alloc (.cells #[.bool R.isf, .int .i64 R.cause, .int .u64 R.val] 48)).cell? ⟨t, 3, none⟩ = some (.int .u64 c2) := H6.out.1.opr.cell 3
          have k4 : (w5.alloc (.cells #[.bool R.isf, .int .i64 R.cause, .int .u64 R.val] 48)).cell? ⟨t, 4, none⟩ = some (.int .u64 c3) := H6.out.1.opr.cell 4
          have k5 : (w5.alloc (.cells #[.bool R.isf, .int .i64 R.cause, .int .u64 R.val] 48)).cell? ⟨t, 5, none⟩ = some (.int .u64 c4) := H6.out.1.opr.cell 5
          have k6 : (w5.alloc (.cells #[.bool R.isf, .int .i64 R.cause, .int .u64 R.val] 48)).cell? ⟨t, 6, none⟩ = some (.int .u64 c5) := H6.out.1.opr.cell 6
          have k7 : (w5.alloc (.cells #[.bool R.isf, .int .i64 R.cause, .int .u64 R.val] 48)).cell? ⟨t, 7, none⟩ = some (.int .u64 c6) := H6.out.1.opr.cell 7
          have k8 : (w5.alloc (.cells #[.bool R.isf, .int .i64 R.cause, .int .u64 R.val] 48)).cell? ⟨t, 8, none⟩ = some (.int .u64 c7) := H6.out.1.opr.cell 8
          have k9 : (w5.alloc (.cells #[.bool R.isf, .int .i64 R.cause, .int .u64 R.val] 48)).cell? ⟨t, 9, none⟩ = some (.int .u64 c8) := H6.out.1.opr.cell 9
          have k10 : (w5.alloc (.cells #[.bool R.isf, .int .i64 R.cause, .int .u64 R.val] 48)).cell? ⟨t, 10, none⟩ = some (.int .u64 c9) := H6.out.1.opr.cell 10
          have k11 : (w5.alloc (.cells #[.bool R.isf, .int .i64 R.cause, .int .u64 R.val] 48)).cell? ⟨t, 11, none⟩ = some (.int .u64 c10) := H6.out.1.opr.cell 11
          have k12 : (w5.alloc (.cells #[.bool R.isf, .int .i64 R.cause, .int .u64 R.val] 48)).cell? ⟨t, 12, none⟩ = some (.int .u64 c11) := H6.out.1.opr.cell 12
          have k13 : (w5.alloc (.cells #[.bool R.isf, .int .i64 R.cause, .int .u64 R.val] 48)).cell? ⟨t, 13, none⟩ = some (.int .i64 pr) := H6.out.1.opr.cell 13
          have k15 : (w5.alloc (.cells #[.bool R.isf, .int .i64 R.cause, .int .u64 R.val] 48)).cell? ⟨t, 15, none⟩ = some (.int .u64 va) := H6.out.1.opr.cell 15
          have k16 : (w5.alloc (.cells #[.bool R.isf, .int .i64 R.cause, .int .u64 R.val] 48)).cell? ⟨t, 16, none⟩ = some (.int .u64 xx) := H6.out.1.opr.cell 16
          have lt := H6.out.1.opr.lt
          go_wp2_with fail
          refine (T2.out _ H6.out.1.two).mono ?_
          rintro e w7 ⟨v2, rfl, hNA, hQ, hfq⟩
          have hB := H6.out.1.doc (by decide) (by decide) hQ hfq
          have r5 := H6.out.1.ownD H6.out.2 (by decide) (by decide) hfq
          have hA := gr_alloc (gr_refl w7 none) (.cells #[.bool R.isf, .int .i64 R.cause, .int .u64 R.val] 48)
          have hAd := adr_keep (H6.out.1.adr HAD.out hfq) hA
          replace hNA := hNA.kept hA
          obtain ⟨A2, cp2, rfl, -⟩ := hNA.shape
          have HNA := Lib.hid (And.intro hAd hNA)
          clear hAd hNA HAD
          have hB8 := hB.keep hA
          have r6 := r5.grown hA (by simp)
          have r7 := newF w7 (.bool R.isf) (.int .i64 R.cause) (.int .u64 R.val)
          clear hQ hfq hB r5 hA T2 H6
          clear k1 k2 k3 k4 k5 k6 k7 k8 k9 k10 k11 k12 k13 k15 k16 lt
          have HK := Lib.hid (And.intro hB8 (And.intro r6 r7))
          clear hB8 r6 r7
          go_wp2_with fail
          generalize w7.alloc (.cells #[.bool R.isf, .int .i64 R.cause, .int .u64 R.val] 48) = W8 at *
          obtain ⟨-, A1', cp1', e1, hc1⟩ := adr_shape HNA.out.1
          obtain ⟨A2', cp2', e2, hc2⟩ := HNA.out.2.shape
          injection e1 with e11 e12 e13
          injection e2 with e21 e22 e23
          subst e11 e13 e21 e23
          refine (rSame_c _ _ all hl8 _ A1 A2 cp1 cp2 rfl rfl hc1 hc2).mono ?_
          rintro e w9 ⟨rfl, d, rfl⟩
          obtain ⟨hB8, r6, r7⟩ := HK.out
          have hd := gr_drewN (gr_refl W8 none) d
          replace hB8 := hB8.keep hd
          replace r6 := r6.grown hd (by simp)
          replace r7 := r7.grown hd (by simp)
          clear HK HNA hc1 hc2 e12 e22 hd
          obtain ⟨x0, x1', x2⟩ := cells3 r6
          obtain ⟨y0, y1, y2⟩ := cells3 r7
          have lx := r6.lt
          have ly := r7.lt
          have nf := fun W => neq_Fs R.isf R.cause R.val W
          have H8 := Lib.hid hB8
          clear r6 r7 hB8
          go_wp2_with fail
          go_roundw
          case rel => exact ⟨j + 1, n1, L1, bs9, _, _, _, by go_num, by omega, by omega, H8.out⟩
          case measure => simp [intOf]; omega
        · obtain ⟨r, hr⟩ : ∃ r, S.fetchV bs most (gC [c0, c1, c2, c3, c4, c5, c6, c7, c8, c9, c10, c11] 9) (gC [c0, c1, c2, c3, c4, c5, c6, c7, c8, c9, c10, c11] 0) pr va L n = r := ⟨_, rfl⟩
          have T1 := Lib.hid (fun W hW => SFetch_c pm gm bs [c0, c1, c2, c3, c4, c5, c6, c7, c8, c9, c10, c11] hcc pr va hpr hva w.heap.size tk most n L W hW r hr)
          have T2 := Lib.hid (fun W hW => rSFetch_c ys pm' gm' bs [c0, c1, c2, c3, c4, c5, c6, c7, c8, c9, c10, c11] hcc pr va hpr hva u kp most n L W hW r hr)
          clear hr
          obtain ⟨x1, R, L1, n1⟩ := r
          simp only at T1 T2
          rw [show vC [c0, c1, c2, c3, c4, c5, c6, c7, c8, c9, c10, c11] = .agg #[.int .u64 c0, .int .u64 c1, .int .u64 c2, .int .u64 c3, .int .u64 c4, .int .u64 c5, .int .u64 c6, .int .u64 c7, .int .u64 c8, .int .u64 c9, .int .u64 c10, .int .u64 c11] from rfl] at T1 T2
          rw [vS_eq, HOO.out] at T1
          unfold vF vFault at T1 T2
          have k1 : U.cell? ⟨t, 1, none⟩ = some (.int .u64 c0) := HB.out.opr.cell 1
          have k2 : U.cell? ⟨t, 2, none⟩ = some (.int .u64 c1) := HB.out.opr.cell 2
          have k3 : U.cell? ⟨t, 3, none⟩ = some (.int .u64 c2) := HB.out.opr.cell 3
          have k4 : U.cell? ⟨t, 4, none⟩ = some (.int .u64 c3) := HB.out.opr.cell 4
          have k5 : U.cell? ⟨t, 5, none⟩ = some (.int .u64 c4) := HB.out.opr.cell 5
          have k6 : U.cell? ⟨t, 6, none⟩ = some (.int .u64 c5) := HB.out.opr.cell 6
          have k7 : U.cell? ⟨t, 7, none⟩ = some (.int .u64 c6) := HB.out.opr.cell 7
          have k8 : U.cell? ⟨t, 8, none⟩ = some (.int .u64 c7) := HB.out.opr.cell 8
          have k9 : U.cell? ⟨t, 9, none⟩ = some (.int .u64 c8) := HB.out.opr.cell 9
          have k10 : U.cell? ⟨t, 10, none⟩ = some (.int .u64 c9) := HB.out.opr.cell 10
          have k11 : U.cell? ⟨t, 11, none⟩ = some (.int .u64 c10) := HB.out.opr.cell 11
          have k12 : U.cell? ⟨t, 12, none⟩ = some (.int .u64 c11) := HB.out.opr.cell 12
          have k13 : U.cell? ⟨t, 13, none⟩ = some (.int .i64 pr) := HB.out.opr.cell 13
          have k15 : U.cell? ⟨t, 15, none⟩ = some (.int .u64 va) := HB.out.opr.cell 15
          have lt := HB.out.opr.lt
          have s0 : U.cell? ⟨s, 0, none⟩ = some (.pointer (some ⟨pm, 0, none⟩)) := HB.out.spa.cell 0
          have s1 : U.cell? ⟨s, 1, none⟩ = some (.pointer o) := HB.out.spa.cell 1
          have ls := HB.out.spa.lt
          go_wp2_with fail
          refine (T1.out _ HB.out.one).mono ?_
          rintro e w5 ⟨rfl, hS, hF⟩
          have hB := HB.out.prog (by decide) (by decide) (by decide) hS hF
          have hA := gr_alloc (gr_refl w5 none) (.cells #[.bool R.isf, .int .i64 R.cause, .int .u64 R.val] 48)
          have H6 := Lib.hid (And.intro (hB.keep hA) (newF w5 (.bool R.isf) (.int .i64 R.cause) (.int .u64 R.val)))
          clear hS hF hB hA T1
          clear k1 k2 k3 k4 k5 k6 k7 k8 k9 k10 k11 k12 k13 k15 lt s0 s1 ls
          have k1 : (w5.alloc (.cells #[.bool R.isf, .int .i64 R.cause, .int .u64 R.val] 48)).cell? ⟨t, 1, none⟩ = some (.int .u64 c0) := H6.out.1.opr.cell 1
          have k2 : (w5.alloc (.cells #[.bool R.isf, .int .i64 R.cause, .int .u64 R.val] 48)).cell? ⟨t, 2, none⟩ = some (.int .u64 c1) := H6.out.1.opr.cell 2
          have k3 : (w5.alloc (.cells #[.bool R.isf, .int .i64 R.cause, .int .u64 R.val] 48)).cell? ⟨t, 3, none⟩ = some (.int .u64 c2) := H6.out.1.opr.cell 3
          have k4 : (w5.alloc (.cells #[.bool R.isf, .int .i64 R.cause, .int .u64 R.val] 48)).cell? ⟨t, 4, none⟩ = some (.int .u64 c3) := H6.out.1.opr.cell 4
          have k5 : (w5.alloc (.cells #[.bool R.isf, .int .i64 R.cause, .int .u64 R.val] 48)).cell? ⟨t, 5, none⟩ = some (.int .u64 c4) := H6.out.1.opr.cell 5
          have k6 : (w5.alloc (.cells #[.bool R.isf, .int .i64 R.cause, .int .u64 R.val] 48)).cell? ⟨t, 6, none⟩ = some (.int .u64 c5) := H6.out.1.opr.cell 6
          have k7 : (w5.alloc (.cells #[.bool R.isf, .int .i64 R.cause, .int .u64 R.val] 48)).cell? ⟨t, 7, none⟩ = some (.int .u64 c6) := H6.out.1.opr.cell 7
          have k8 : (w5.alloc (.cells #[.bool R.isf, .int .i64 R.cause, .int .u64 R.val] 48)).cell? ⟨t, 8, none⟩ = some (.int .u64 c7) := H6.out.1.opr.cell 8
          have k9 : (w5.alloc (.cells #[.bool R.isf, .int .i64 R.cause, .int .u64 R.val] 48)).cell? ⟨t, 9, none⟩ = some (.int .u64 c8) := H6.out.1.opr.cell 9
          have k10 : (w5.alloc (.cells #[.bool R.isf, .int .i64 R.cause, .int .u64 R.val] 48)).cell? ⟨t, 10, none⟩ = some (.int .u64 c9) := H6.out.1.opr.cell 10
          have k11 : (w5.alloc (.cells #[.bool R.isf, .int .i64 R.cause, .int .u64 R.val] 48)).cell? ⟨t, 11, none⟩ = some (.int .u64 c10) := H6.out.1.opr.cell 11
          have k12 : (w5.alloc (.cells #[.bool R.isf, .int .i64 R.cause, .int .u64 R.val] 48)).cell? ⟨t, 12, none⟩ = some (.int .u64 c11) := H6.out.1.opr.cell 12
          have k13 : (w5.alloc (.cells #[.bool R.isf, .int .i64 R.cause, .int .u64 R.val] 48)).cell? ⟨t, 13, none⟩ = some (.int .i64 pr) := H6.out.1.opr.cell 13
          have k15 : (w5.alloc (.cells #[.bool R.isf, .int .i64 R.cause, .int .u64 R.val] 48)).cell? ⟨t, 15, none⟩ = some (.int .u64 va) := H6.out.1.opr.cell 15
          have lt := H6.out.1.opr.lt
          go_wp2_with fail
          refine (T2.out _ H6.out.1.two).mono ?_
          rintro e w7 ⟨rfl, hQ, hfq⟩
          have hB := H6.out.1.doc (by decide) (by decide) hQ hfq
          have r5 := H6.out.1.ownD H6.out.2 (by decide) (by decide) hfq
          have hA := gr_alloc (gr_refl w7 none) (.cells #[.bool R.isf, .int .i64 R.cause, .int .u64 R.val] 48)
          have hB8 := hB.keep hA
          have r6 := r5.grown hA (by simp)
          have r7 := newF w7 (.bool R.isf) (.int .i64 R.cause) (.int .u64 R.val)
          clear hQ hfq hB r5 hA T2 H6
          clear k1 k2 k3 k4 k5 k6 k7 k8 k9 k10 k11 k12 k13 k15 lt
          obtain ⟨x0, x1', x2⟩ := cells3 r6
          obtain ⟨y0, y1, y2⟩ := cells3 r7
          have lx := r6.lt
          have ly := r7.lt
          have nf := fun W => neq_Fs R.isf R.cause R.val W
          have H8 := Lib.hid hB8
          clear r6 r7 hB8
          go_wp2_with fail
          go_roundw
          case rel => exact ⟨j + 1, n1, L1, bs, _, _, _, by go_num, by omega, by omega, H8.out⟩
          case measure => simp [intOf]; omega
      · obtain rfl : j = 30 := by omega
        clear hL
        obtain ⟨N, hN⟩ : ∃ N, N = bs.length := ⟨_, rfl⟩
        have HN := Lib.hid hN
        have hL := HL.out
        have AL := Lib.hid (all_c (w := wr.drew) hL.one.mem.drew hN)
        have y0 : wr.cell? ⟨ys, 0, none⟩ = some (.pointer (some ⟨pm', 0, none⟩)) := hL.two.str.cell 0
        have y1 := hL.two.mem.head
        rw [← hN] at y1
        clear hN
        have s0 : wr.cell? ⟨s, 0, none⟩ = some (.pointer (some ⟨pm, 0, none⟩)) := hL.spa.cell 0
        have HKS := Lib.hid (show ∀ w', wr.grownBy w' none → (w'.cell? ⟨ys, 0, none⟩ = some (.pointer (some ⟨pm', 0, none⟩)) ∧ w'.cell? ⟨pm', 0, none⟩ = some (.slice (some ⟨gm', 0, none⟩) N N) ∧ w'.cell? ⟨s, 0, none⟩ = some (.pointer (some ⟨pm, 0, none⟩)) ∧ wr.grownBy w' none) from fun w' h =>
          ⟨(hL.two.str.grown h (by simp)).cell 0, by have := (hL.two.mem.kept h).head; rwa [← HN.out] at this, (hL.spa.grown h (by simp)).cell 0, h⟩)
        have yl := hL.two.str.lt
        have yl2 := hL.two.mem.ptr.lt
        have ls := hL.spa.lt
        clear hL
        go_wp2_with fail
        go_region_held3 (fun w' => (w'.cell? ⟨ys, 0, none⟩ = some (.pointer (some ⟨pm', 0, none⟩)) ∧ w'.cell? ⟨pm', 0, none⟩ = some (.slice (some ⟨gm', 0, none⟩) N N) ∧ w'.cell? ⟨s, 0, none⟩ = some (.pointer (some ⟨pm, 0, none⟩)) ∧ wr.grownBy w' none))
          (first | (with_reducible assumption) | exact HKS.out _ (gr_drew (gr_refl _ none)) | exact HKS.out _ (gr_trans (gr_drew (gr_refl _ none)) (by assumption)))
          (first | (go_at_call 45; refine AL.out.mono ?_; rintro e w7 ⟨rfl, hR7, hG7⟩))
        rename_i w7 hR7 hG7 hHeld
        have hG : wr.grownBy w7 none := gr_trans (gr_drew (gr_refl wr none)) hG7
        have hB7 := HL.out.keep hG
        replace hR7 : Row w7 wr.heap.size 5 (vals bs) := hR7
        have hT1 := row_text hR7 hB7.one.mem.byt HN.out
        have hT2 := row_text hB7.two.mem.row hB7.two.mem.byt HN.out
        have y0 : w7.cell? ⟨ys, 0, none⟩ = some (.pointer (some ⟨pm', 0, none⟩)) := hB7.two.str.cell 0
        have y1 := hB7.two.mem.head
        rw [← HN.out] at y1
        have yl := hB7.two.str.lt
        have yl2 := hB7.two.mem.ptr.lt
        have HBE := Lib.hid (fun d => gr_below (gr_drewN hB7.gr d))
        clear AL HKS hHeld s0 ls hG7 hG hB7 hR7 HL
        go_wp2_with fail
        go_quiet (fail)
        go_wp2_with fail
        go_ret
        exact ⟨by first | rfl | simp, HBE.out _⟩
    · obtain rfl : j = m2 := by omega
      clear hL
      obtain ⟨N, hN⟩ : ∃ N, N = bs.length := ⟨_, rfl⟩
      have HN := Lib.hid hN
      have hL := HL.out
      have AL := Lib.hid (all_c (w := wr.drew) hL.one.mem.drew hN)
      have y0 : wr.cell? ⟨ys, 0, none⟩ = some (.pointer (some ⟨pm', 0, none⟩)) := hL.two.str.cell 0
      have y1 := hL.two.mem.head
      rw [← hN] at y1
      clear hN
      have s0 : wr.cell? ⟨s, 0, none⟩ = some (.pointer (some ⟨pm, 0, none⟩)) := hL.spa.cell 0
      have HKS := Lib.hid (show ∀ w', wr.grownBy w' none → (w'.cell? ⟨ys, 0, none⟩ = some (.pointer (some ⟨pm', 0, none⟩)) ∧ w'.cell? ⟨pm', 0, none⟩ = some (.slice (some ⟨gm', 0, none⟩) N N) ∧ w'.cell? ⟨s, 0, none⟩ = some (.pointer (some ⟨pm, 0, none⟩)) ∧ wr.grownBy w' none) from fun w' h =>
        ⟨(hL.two.str.grown h (by simp)).cell 0, by have := (hL.two.mem.kept h).head; rwa [← HN.out] at this, (hL.spa.grown h (by simp)).cell 0, h⟩)
      have yl := hL.two.str.lt
      have yl2 := hL.two.mem.ptr.lt
      have ls := hL.spa.lt
      clear hL
      go_wp2_with fail
      go_region_held3 (fun w' => (w'.cell? ⟨ys, 0, none⟩ = some (.pointer (some ⟨pm', 0, none⟩)) ∧ w'.cell? ⟨pm', 0, none⟩ = some (.slice (some ⟨gm', 0, none⟩) N N) ∧ w'.cell? ⟨s, 0, none⟩ = some (.pointer (some ⟨pm, 0, none⟩)) ∧ wr.grownBy w' none))
        (first | (with_reducible assumption) | exact HKS.out _ (gr_drew (gr_refl _ none)) | exact HKS.out _ (gr_trans (gr_drew (gr_refl _ none)) (by assumption)))
        (first | (go_at_call 45; refine AL.out.mono ?_; rintro e w7 ⟨rfl, hR7, hG7⟩))
      rename_i w7 hR7 hG7 hHeld
      have hG : wr.grownBy w7 none := gr_trans (gr_drew (gr_refl wr none)) hG7
      have hB7 := HL.out.keep hG
      replace hR7 : Row w7 wr.heap.size 5 (vals bs) := hR7
      have hT1 := row_text hR7 hB7.one.mem.byt HN.out
      have hT2 := row_text hB7.two.mem.row hB7.two.mem.byt HN.out
      have y0 : w7.cell? ⟨ys, 0, none⟩ = some (.pointer (some ⟨pm', 0, none⟩)) := hB7.two.str.cell 0
      have y1 := hB7.two.mem.head
      rw [← HN.out] at y1
      have yl := hB7.two.str.lt
      have yl2 := hB7.two.mem.ptr.lt
      have HBE := Lib.hid (fun d => gr_below (gr_drewN hB7.gr d))
      clear AL HKS hHeld s0 ls hG7 hG hB7 hR7 HL
      go_wp2_with fail
      go_quiet (fail)
      go_wp2_with fail
      go_ret
      exact ⟨by first | rfl | simp, HBE.out _⟩

theorem own : ownKnob Try.prog.godebug = none := by kernel_rfl
theorem laidOut : laidOutB Try.prog = true := by kernel_rfl

set_option maxRecDepth 100000 in
theorem lifted (os : Os) (started : os.Started) (H : Type) (enc : TypeId × Value → H) :
    ReturnsInHanded {} Try.checked os 8 .any (Rows.spacePlaysSpec.pre6 enc Try.prog Try.f8 Rows.spacePlaysRow.domain false) (Rows.spacePlaysSpec.post enc Try.prog Try.f8 false true false false) := by
  refine returnsInHanded_of_change (C := Try.checked) own started (by kernel_rfl) Try.func8
    (ChangeSpec.witness6 (enc := enc) (C := Try.checked) false ⟨#[], #[.int .i64 0, .agg #[.int .u8 0, .slice none 0 0], .slice none 0 0], []⟩ 8 (by kernel_rfl) (by kernel_rfl) (by kernel_rfl) (by kernel_rfl)) ?_
  intro W base args ds gs before hval0 hW hcnd _
  have hval : ∀ (j : Nat) t v, Try.f8.params[j]? = some t → args[j]? = some v → Value.okWide Try.prog W .any base t v := hval0
  have hW' := hW
  obtain ⟨p, q, hA0, hV, rfl, hfz, hnd⟩ := hW
  have hA : DataW.TrodAll enc Try.prog W 0 (fun _ => true) true Try.f8.params.toList args.toList ds p := hA0
  rw [Try.params8] at hA hval
  obtain ⟨v0, vs0, d0, ds0, p0, q0, hargs, rfl, rfl, h0, r0⟩ := trodAll_cons hA
  obtain ⟨v1, vs1, d1, ds1, p1, q1, rfl, rfl, rfl, h1, r1⟩ := trodAll_cons r0
  obtain ⟨v2, vs2, d2, ds2, p2, q2, rfl, rfl, rfl, h2, r2⟩ := trodAll_cons r1
  obtain ⟨rfl, rfl, rfl⟩ := trodAll_nil r2
  obtain rfl : args = #[v0, v1, v2] := by cases args; simp_all
  obtain ⟨rfl, rfl⟩ := trodVars_none hV
  clear hA0 hval0 hA
  have k0 := h0
  have lt0 : ∀ x ∈ p0, x.block < W.heap.size := by obtain ⟨m, hm⟩ := k0; exact DataW.trod_lt m _ _ _ hm
  obtain ⟨a0, rfl, rfl, rfl, w0⟩ := open_int Try.underlying3 (hval 0 3 v0 rfl rfl) h0
  have k1 := h1
  have lt1 : ∀ x ∈ p1, x.block < W.heap.size := by obtain ⟨m, hm⟩ := k1; exact DataW.trod_lt m _ _ _ hm
  obtain ⟨xs1, rfl, l1, m1, f1⟩ := Op.open_struct Try.underlying78 (hval 1 78 v1 rfl rfl) h1
  rw [show Try.prog.cellsOf 78 = 2 from by kernel_rfl] at l1
  obtain _ | ⟨c1_0, xs1⟩ := xs1
  · simp at l1
  obtain _ | ⟨c1_1, xs1⟩ := xs1
  · simp at l1
  obtain _ | ⟨_, _⟩ := xs1
  rotate_left
  · simp at l1
  clear h1
  obtain ⟨zf1_0, gf1_0⟩ := f1 0 _ rfl
  replace gf1_0 : DataW.trod enc Try.prog W 0 (fun _ => true) true m1 5 [c1_0] = some zf1_0 := gf1_0
  obtain ⟨a1_0, e1_0, _, w1_0⟩ := DataW.trod_int Try.underlying5 gf1_0
  simp at e1_0; subst e1_0
  obtain ⟨zf1_1, gf1_1⟩ := f1 1 _ rfl
  replace gf1_1 : DataW.trod enc Try.prog W 0 (fun _ => true) true m1 76 [c1_1] = some zf1_1 := gf1_1
  obtain ⟨A1_1, n1_1, k1_1, e1_1, mc1_1, cc1_1, raw1_1⟩ := Op.read_items Try.underlying76 Try.underlying145 (by kernel_rfl) (by kernel_rfl) (by decide) gf1_1
  subst e1_1
  have el1_1 : ∀ i, i < n1_1 → ∃ ad, A1_1 = some ad ∧ ad.block < W.heap.size ∧ ∃ (x0 : Int) (x1 : Int), (W.cell? (ad.add (i * 2 + 0)) = some (.int .u32 x0) ∧ (Lit.int .u32 x0).wf = true) ∧ (W.cell? (ad.add (i * 2 + 1)) = some (.int .u64 x1) ∧ (Lit.int .u64 x1).wf = true) := by
    intro i hi
    obtain ⟨ad, hA, hb, n, hf⟩ := raw1_1 i hi
    obtain ⟨u0, yy0, hu0, ht0⟩ := hf 0 _ rfl
    obtain ⟨x0, ee0, _, ww0⟩ := DataW.trod_int Try.underlying38 ht0; simp only [List.cons.injEq, and_true] at ee0; subst ee0
    obtain ⟨u1, yy1, hu1, ht1⟩ := hf 1 _ rfl
    obtain ⟨x1, ee1, _, ww1⟩ := DataW.trod_int Try.underlying22 ht1; simp only [List.cons.injEq, and_true] at ee1; subst ee1
    exact ⟨ad, hA, hb, x0, x1, ⟨hu0, ww0⟩, ⟨hu1, ww1⟩⟩
  have k2 := h2
  have lt2 : ∀ x ∈ p2, x.block < W.heap.size := by obtain ⟨m, hm⟩ := k2; exact DataW.trod_lt m _ _ _ hm
  obtain ⟨A2, m2, c2, rfl, mc2, cc2, raw2⟩ := Op.open_rows (K := 18) Try.underlying79 (by kernel_rfl) (by decide) (hval 2 79 v2 rfl rfl) h2
  have el2 : ∀ i, i < m2 → ∃ ad, A2 = some ad ∧ ad.block < W.heap.size ∧ ∃ (x0 : Int) (x1 : Int) (x2 : Int) (x3 : Int) (x4 : Int) (x5 : Int) (x6 : Int) (x7 : Int) (x8 : Int) (x9 : Int) (x10 : Int) (x11 : Int) (x12 : Int) (x13 : Int) (x14 : Int) (x15 : Int) (x16 : Int) (x17 : Int), (W.cell? (ad.add (i * 18 + 0)) = some (.int .u8 x0) ∧ (Lit.int .u8 x0).wf = true) ∧ (W.cell? (ad.add (i * 18 + 1)) = some (.int .u64 x1) ∧ (Lit.int .u64 x1).wf = true) ∧ (W.cell? (ad.add (i * 18 + 2)) = some (.int .u64 x2) ∧ (Lit.int .u64 x2).wf = true) ∧ (W.cell? (ad.add (i * 18 + 3)) = some (.int .u64 x3) ∧ (Lit.int .u64 x3).wf = true) ∧ (W.cell? (ad.add (i * 18 + 4)) = some (.int .u64 x4) ∧ (Lit.int .u64 x4).wf = true) ∧ (W.cell? (ad.add (i * 18 + 5)) = some (.int .u64 x5) ∧ (Lit.int .u64 x5).wf = true) ∧ (W.cell? (ad.add (i * 18 + 6)) = some (.int .u64 x6) ∧ (Lit.int .u64 x6).wf = true) ∧ (W.cell? (ad.add (i * 18 + 7)) = some (.int .u64 x7) ∧ (Lit.int .u64 x7).wf = true) ∧ (W.cell? (ad.add (i * 18 + 8)) = some (.int .u64 x8) ∧ (Lit.int .u64 x8).wf = true) ∧ (W.cell? (ad.add (i * 18 + 9)) = some (.int .u64 x9) ∧ (Lit.int .u64 x9).wf = true) ∧ (W.cell? (ad.add (i * 18 + 10)) = some (.int .u64 x10) ∧ (Lit.int .u64 x10).wf = true) ∧ (W.cell? (ad.add (i * 18 + 11)) = some (.int .u64 x11) ∧ (Lit.int .u64 x11).wf = true) ∧ (W.cell? (ad.add (i * 18 + 12)) = some (.int .u64 x12) ∧ (Lit.int .u64 x12).wf = true) ∧ (W.cell? (ad.add (i * 18 + 13)) = some (.int .i64 x13) ∧ (Lit.int .i64 x13).wf = true) ∧ (W.cell? (ad.add (i * 18 + 14)) = some (.int .i64 x14) ∧ (Lit.int .i64 x14).wf = true) ∧ (W.cell? (ad.add (i * 18 + 15)) = some (.int .u64 x15) ∧ (Lit.int .u64 x15).wf = true) ∧ (W.cell? (ad.add (i * 18 + 16)) = some (.int .u64 x16) ∧ (Lit.int .u64 x16).wf = true) ∧ (W.cell? (ad.add (i * 18 + 17)) = some (.int .u8 x17) ∧ (Lit.int .u8 x17).wf = true) := by
    intro i hi
    obtain ⟨ad, hA, hb, mm, cs, yy, hl, hcl, ht⟩ := raw2 i hi
    obtain _ | ⟨c_0, cs⟩ := cs
    · simp at hl
    obtain _ | ⟨c_1, cs⟩ := cs
    · simp at hl
    obtain _ | ⟨c_2, cs⟩ := cs
    · simp at hl
    obtain _ | ⟨c_3, cs⟩ := cs
    · simp at hl
    obtain _ | ⟨c_4, cs⟩ := cs
    · simp at hl
    obtain _ | ⟨c_5, cs⟩ := cs
    · simp at hl
    obtain _ | ⟨c_6, cs⟩ := cs
    · simp at hl
    obtain _ | ⟨c_7, cs⟩ := cs
    · simp at hl
    obtain _ | ⟨c_8, cs⟩ := cs
    · simp at hl
    obtain _ | ⟨c_9, cs⟩ := cs
    · simp at hl
    obtain _ | ⟨c_10, cs⟩ := cs
    · simp at hl
    obtain _ | ⟨c_11, cs⟩ := cs
    · simp at hl
    obtain _ | ⟨c_12, cs⟩ := cs
    · simp at hl
    obtain _ | ⟨c_13, cs⟩ := cs
    · simp at hl
    obtain _ | ⟨c_14, cs⟩ := cs
    · simp at hl
    obtain _ | ⟨c_15, cs⟩ := cs
    · simp at hl
    obtain _ | ⟨c_16, cs⟩ := cs
    · simp at hl
    obtain _ | ⟨c_17, cs⟩ := cs
    · simp at hl
    obtain _ | ⟨_, _⟩ := cs
    rotate_left
    · simp at hl
    have hc_0 := hcl 0 (by decide)
    have hc_1 := hcl 1 (by decide)
    have hc_2 := hcl 2 (by decide)
    have hc_3 := hcl 3 (by decide)
    have hc_4 := hcl 4 (by decide)
    have hc_5 := hcl 5 (by decide)
    have hc_6 := hcl 6 (by decide)
    have hc_7 := hcl 7 (by decide)
    have hc_8 := hcl 8 (by decide)
    have hc_9 := hcl 9 (by decide)
    have hc_10 := hcl 10 (by decide)
    have hc_11 := hcl 11 (by decide)
    have hc_12 := hcl 12 (by decide)
    have hc_13 := hcl 13 (by decide)
    have hc_14 := hcl 14 (by decide)
    have hc_15 := hcl 15 (by decide)
    have hc_16 := hcl 16 (by decide)
    have hc_17 := hcl 17 (by decide)
    clear hcl
    simp only [List.getElem?_cons_zero, List.getElem?_cons_succ] at hc_0 hc_1 hc_2 hc_3 hc_4 hc_5 hc_6 hc_7 hc_8 hc_9 hc_10 hc_11 hc_12 hc_13 hc_14 hc_15 hc_16 hc_17
    obtain ⟨mq, fq⟩ := Op.read_struct Try.underlying86 ht
    obtain ⟨zq_0, gq_0⟩ := fq 0 _ rfl
    replace gq_0 : DataW.trod enc Try.prog W 0 (fun _ => true) true mq 5 [c_0] = some zq_0 := gq_0
    obtain ⟨x0, ee0, _, ww0⟩ := DataW.trod_int Try.underlying5 gq_0
    simp at ee0; subst ee0
    obtain ⟨zq_1, gq_1⟩ := fq 1 _ rfl
    replace gq_1 : DataW.trod enc Try.prog W 0 (fun _ => true) true mq 24 [c_1, c_2, c_3, c_4, c_5, c_6, c_7, c_8, c_9, c_10, c_11, c_12] = some zq_1 := gq_1
    obtain ⟨mq_1, fq_1⟩ := Op.read_struct Try.underlying24 gq_1
    obtain ⟨zq_1_0, gq_1_0⟩ := fq_1 0 _ rfl
    replace gq_1_0 : DataW.trod enc Try.prog W 0 (fun _ => true) true mq_1 22 [c_1] = some zq_1_0 := gq_1_0
    obtain ⟨x1, ee1, _, ww1⟩ := DataW.trod_int Try.underlying22 gq_1_0
    simp at ee1; subst ee1
    obtain ⟨zq_1_1, gq_1_1⟩ := fq_1 1 _ rfl
    replace gq_1_1 : DataW.trod enc Try.prog W 0 (fun _ => true) true mq_1 22 [c_2] = some zq_1_1 := gq_1_1
    obtain ⟨x2, ee2, _, ww2⟩ := DataW.trod_int Try.underlying22 gq_1_1
    simp at ee2; subst ee2
    obtain ⟨zq_1_2, gq_1_2⟩ := fq_1 2 _ rfl
    replace gq_1_2 : DataW.trod enc Try.prog W 0 (fun _ => true) true mq_1 22 [c_3] = some zq_1_2 := gq_1_2
    obtain ⟨x3, ee3, _, ww3⟩ := DataW.trod_int Try.underlying22 gq_1_2
    simp at ee3; subst ee3
    obtain ⟨zq_1_3, gq_1_3⟩ := fq_1 3 _ rfl
    replace gq_1_3 : DataW.trod enc Try.prog W 0 (fun _ => true) true mq_1 22 [c_4] = some zq_1_3 := gq_1_3
    obtain ⟨x4, ee4, _, ww4⟩ := DataW.trod_int Try.underlying22 gq_1_3
    simp at ee4; subst ee4
    obtain ⟨zq_1_4, gq_1_4⟩ := fq_1 4 _ rfl
    replace gq_1_4 : DataW.trod enc Try.prog W 0 (fun _ => true) true mq_1 22 [c_5] = some zq_1_4 := gq_1_4
    obtain ⟨x5, ee5, _, ww5⟩ := DataW.trod_int Try.underlying22 gq_1_4
    simp at ee5; subst ee5
    obtain ⟨zq_1_5, gq_1_5⟩ := fq_1 5 _ rfl
    replace gq_1_5 : DataW.trod enc Try.prog W 0 (fun _ => true) true mq_1 22 [c_6] = some zq_1_5 := gq_1_5
    obtain ⟨x6, ee6, _, ww6⟩ := DataW.trod_int Try.underlying22 gq_1_5
    simp at ee6; subst ee6
    obtain ⟨zq_1_6, gq_1_6⟩ := fq_1 6 _ rfl
    replace gq_1_6 : DataW.trod enc Try.prog W 0 (fun _ => true) true mq_1 22 [c_7] = some zq_1_6 := gq_1_6
    obtain ⟨x7, ee7, _, ww7⟩ := DataW.trod_int Try.underlying22 gq_1_6
    simp at ee7; subst ee7
    obtain ⟨zq_1_7, gq_1_7⟩ := fq_1 7 _ rfl
    replace gq_1_7 : DataW.trod enc Try.prog W 0 (fun _ => true) true mq_1 22 [c_8] = some zq_1_7 := gq_1_7
    obtain ⟨x8, ee8, _, ww8⟩ := DataW.trod_int Try.underlying22 gq_1_7
    simp at ee8; subst ee8
    obtain ⟨zq_1_8, gq_1_8⟩ := fq_1 8 _ rfl
    replace gq_1_8 : DataW.trod enc Try.prog W 0 (fun _ => true) true mq_1 22 [c_9] = some zq_1_8 := gq_1_8
    obtain ⟨x9, ee9, _, ww9⟩ := DataW.trod_int Try.underlying22 gq_1_8
    simp at ee9; subst ee9
    obtain ⟨zq_1_9, gq_1_9⟩ := fq_1 9 _ rfl
    replace gq_1_9 : DataW.trod enc Try.prog W 0 (fun _ => true) true mq_1 22 [c_10] = some zq_1_9 := gq_1_9
    obtain ⟨x10, ee10, _, ww10⟩ := DataW.trod_int Try.underlying22 gq_1_9
    simp at ee10; subst ee10
    obtain ⟨zq_1_10, gq_1_10⟩ := fq_1 10 _ rfl
    replace gq_1_10 : DataW.trod enc Try.prog W 0 (fun _ => true) true mq_1 22 [c_11] = some zq_1_10 := gq_1_10
    obtain ⟨x11, ee11, _, ww11⟩ := DataW.trod_int Try.underlying22 gq_1_10
    simp at ee11; subst ee11
    obtain ⟨zq_1_11, gq_1_11⟩ := fq_1 11 _ rfl
    replace gq_1_11 : DataW.trod enc Try.prog W 0 (fun _ => true) true mq_1 22 [c_12] = some zq_1_11 := gq_1_11
    obtain ⟨x12, ee12, _, ww12⟩ := DataW.trod_int Try.underlying22 gq_1_11
    simp at ee12; subst ee12
    obtain ⟨zq_2, gq_2⟩ := fq 2 _ rfl
    replace gq_2 : DataW.trod enc Try.prog W 0 (fun _ => true) true mq 3 [c_13] = some zq_2 := gq_2
    obtain ⟨x13, ee13, _, ww13⟩ := DataW.trod_int Try.underlying3 gq_2
    simp at ee13; subst ee13
    obtain ⟨zq_3, gq_3⟩ := fq 3 _ rfl
    replace gq_3 : DataW.trod enc Try.prog W 0 (fun _ => true) true mq 3 [c_14] = some zq_3 := gq_3
    obtain ⟨x14, ee14, _, ww14⟩ := DataW.trod_int Try.underlying3 gq_3
    simp at ee14; subst ee14
    obtain ⟨zq_4, gq_4⟩ := fq 4 _ rfl
    replace gq_4 : DataW.trod enc Try.prog W 0 (fun _ => true) true mq 22 [c_15] = some zq_4 := gq_4
    obtain ⟨x15, ee15, _, ww15⟩ := DataW.trod_int Try.underlying22 gq_4
    simp at ee15; subst ee15
    obtain ⟨zq_5, gq_5⟩ := fq 5 _ rfl
    replace gq_5 : DataW.trod enc Try.prog W 0 (fun _ => true) true mq 22 [c_16] = some zq_5 := gq_5
    obtain ⟨x16, ee16, _, ww16⟩ := DataW.trod_int Try.underlying22 gq_5
    simp at ee16; subst ee16
    obtain ⟨zq_6, gq_6⟩ := fq 6 _ rfl
    replace gq_6 : DataW.trod enc Try.prog W 0 (fun _ => true) true mq 5 [c_17] = some zq_6 := gq_6
    obtain ⟨x17, ee17, _, ww17⟩ := DataW.trod_int Try.underlying5 gq_6
    simp at ee17; subst ee17
    exact ⟨ad, hA, hb, x0, x1, x2, x3, x4, x5, x6, x7, x8, x9, x10, x11, x12, x13, x14, x15, x16, x17, ⟨hc_0, ww0⟩, ⟨hc_1, ww1⟩, ⟨hc_2, ww2⟩, ⟨hc_3, ww3⟩, ⟨hc_4, ww4⟩, ⟨hc_5, ww5⟩, ⟨hc_6, ww6⟩, ⟨hc_7, ww7⟩, ⟨hc_8, ww8⟩, ⟨hc_9, ww9⟩, ⟨hc_10, ww10⟩, ⟨hc_11, ww11⟩, ⟨hc_12, ww12⟩, ⟨hc_13, ww13⟩, ⟨hc_14, ww14⟩, ⟨hc_15, ww15⟩, ⟨hc_16, ww16⟩, ⟨hc_17, ww17⟩⟩
  refine (walk W a0 w0 a1_0 w1_0 A1_1 n1_1 k1_1 mc1_1 cc1_1 el1_1 A2 m2 c2 mc2 cc2 el2).mono fun e W' ⟨he, bel⟩ => ?_
  subst he
  exact ⟨_, rfl, _, _, _, [], _, [], hW', trodAll_mk1 (shut_bool Try.underlying4 _), (trodAll_cons_mk (Below.trod laidOut (by kernel_rfl) (of_decide_eq_true (by kernel_rfl)) k0 bel lt0) (trodAll_cons_mk (Below.trod laidOut (by kernel_rfl) (of_decide_eq_true (by kernel_rfl)) k1 bel lt1) (trodAll_cons_mk (Below.trod laidOut (by kernel_rfl) (of_decide_eq_true (by kernel_rfl)) k2 bel lt2) trodAll_mk0))), rfl, bel.frame _, fun h => by cases h⟩

theorem over : Rows.spacePlaysRow.holds Try.pinned (OpenSpec.ofChange Rows.spacePlaysSpec) :=
  OpenClaim.holds_of_wide 8 Try.f8 rfl rfl rfl rfl rfl rfl rfl ⟨rfl, rfl, rfl, rfl, rfl⟩ rfl rfl rfl rfl rfl (by kernel_rfl) Try.func8 (by kernel_rfl)
    (of_decide_eq_true (by kernel_rfl)) (by unfold Func.isWrapper; first | (rw [if_pos (by decide +kernel)]; kernel_rfl) | (rw [if_neg (by decide +kernel)]; exact ⟨rfl, rfl⟩))
    (fun os started H enc _ => lifted os started H enc)

/-- The statement. -/
theorem proved : Rows.SpacePlaysSaid := over
#print axioms proved

end Go.Proofs.Ytkfmcbhoendocaa.spacePlays
