/-
  Proved: for any memory and any store, the law SpaceStores returns true: what was stored is there, byte by byte, and no byte but those that are told is other than it was; a store that faults stores nothing; and as many addresses are told as bytes.
  Conditions: none beyond the statement's own.
-/
import Derived.Test.YthhlmliejppdoaaRows
import Derived.Test.YthhlmliejppdoaaLayO
import Derived.Lib.Hide
import Derived.Deep.Cut
import Derived.Test.YthhlmliejppdoaaSpL
import Derived.Test.YthhlmliejppdoaaSpS
import Derived.StillTailTactics
import Derived.BigQuiet
import Derived.Deep.RegionHeld3
namespace Go.Proofs.Ythhlmliejppdoaa.spaceStores
open Go Go.ChangeShapes Go.WideShapes Go.ChangeAt Go.RowKit W M D A C P K
set_option linter.unusedVariables false
set_option linter.unusedSimpArgs false

set_option maxRecDepth 100000 in
set_option maxHeartbeats 8000000 in
theorem walk (w : World) (a0_0 : Int) (w0_0 : (Lit.int .u8 a0_0).wf = true) (A0_1 : Option Addr) (n0_1 k0_1 : Nat) (mc0_1 : n0_1 ≤ k0_1) (cc0_1 : k0_1 ≤ 9223372036854775807) (el0_1 : ∀ i, i < n0_1 → ∃ ad, A0_1 = some ad ∧ ad.block < w.heap.size ∧ ∃ (x0 : Int) (x1 : Int), (w.cell? (ad.add (i * 2 + 0)) = some (.int .u32 x0) ∧ (Lit.int .u32 x0).wf = true) ∧ (w.cell? (ad.add (i * 2 + 1)) = some (.int .u64 x1) ∧ (Lit.int .u64 x1).wf = true)) (a1_0 : Int) (w1_0 : (Lit.int .u8 a1_0).wf = true) (a1_1 : Int) (w1_1 : (Lit.int .u64 a1_1).wf = true) (a1_2 : Int) (w1_2 : (Lit.int .u64 a1_2).wf = true) (a1_3 : Int) (w1_3 : (Lit.int .u64 a1_3).wf = true) (a1_4 : Int) (w1_4 : (Lit.int .u64 a1_4).wf = true) (a1_5 : Int) (w1_5 : (Lit.int .u64 a1_5).wf = true) (a1_6 : Int) (w1_6 : (Lit.int .u64 a1_6).wf = true) (a1_7 : Int) (w1_7 : (Lit.int .u64 a1_7).wf = true) (a1_8 : Int) (w1_8 : (Lit.int .u64 a1_8).wf = true) (a1_9 : Int) (w1_9 : (Lit.int .u64 a1_9).wf = true) (a1_10 : Int) (w1_10 : (Lit.int .u64 a1_10).wf = true) (a1_11 : Int) (w1_11 : (Lit.int .u64 a1_11).wf = true) (a1_12 : Int) (w1_12 : (Lit.int .u64 a1_12).wf = true) (a1_13 : Int) (w1_13 : (Lit.int .i64 a1_13).wf = true) (a1_14 : Int) (w1_14 : (Lit.int .i64 a1_14).wf = true) (a1_15 : Int) (w1_15 : (Lit.int .u64 a1_15).wf = true) (a1_16 : Int) (w1_16 : (Lit.int .u64 a1_16).wf = true) (a1_17 : Int) (w1_17 : (Lit.int .u8 a1_17).wf = true) :
    Calls Try.prog 8 #[.agg #[.int .u8 a0_0, .slice A0_1 n0_1 k0_1], .agg #[.int .u8 a1_0, .int .u64 a1_1, .int .u64 a1_2, .int .u64 a1_3, .int .u64 a1_4, .int .u64 a1_5, .int .u64 a1_6, .int .u64 a1_7, .int .u64 a1_8, .int .u64 a1_9, .int .u64 a1_10, .int .u64 a1_11, .int .u64 a1_12, .int .i64 a1_13, .int .i64 a1_14, .int .u64 a1_15, .int .u64 a1_16, .int .u8 a1_17]] w fun e w' => e = .returned (.bool true) ∧ Below w.heap.size w w' := by
  have ha : 0 ≤ a0_0 ∧ a0_0 ≤ 255 := bounds_u8 w0_0
  have hc : C.Good [a1_1, a1_2, a1_3, a1_4, a1_5, a1_6, a1_7, a1_8, a1_9, a1_10, a1_11, a1_12] := good12 (bounds_u64 w1_1) (bounds_u64 w1_2) (bounds_u64 w1_3) (bounds_u64 w1_4) (bounds_u64 w1_5) (bounds_u64 w1_6) (bounds_u64 w1_7) (bounds_u64 w1_8) (bounds_u64 w1_9) (bounds_u64 w1_10) (bounds_u64 w1_11) (bounds_u64 w1_12)
  have hp : I64 a1_13 := bounds_i64 w1_13
  have hh : I64 a1_14 := bounds_i64 w1_14
  have hv : B64 a1_15 := bounds_u64 w1_15
  have hx : B64 a1_16 := bounds_u64 w1_16
  have hn : 0 ≤ a1_17 ∧ a1_17 ≤ 255 := bounds_u8 w1_17
  have hkd : 0 ≤ a1_0 ∧ a1_0 ≤ 255 := bounds_u8 w1_0
  obtain ⟨f, h, hE⟩ := elems_of el0_1
  obtain ⟨bs, hbs⟩ : ∃ bs, bs = fillV f h (min n0_1 64) (List.replicate ((1 + a0_0 % 16).toNat * 4096) 0) := ⟨_, rfl⟩
  have BT := Lib.hid (fun W hW => bothN_c (-1) (by unfold I64; omega) (by omega) a0_0 ha A0_1 n0_1 k0_1 mc0_1 cc0_1 f h W hW)
  rw [← hbs] at BT
  have HE := Lib.hid hE
  clear hbs el0_1 hE w1_0 w1_1 w1_2 w1_3 w1_4 w1_5 w1_6 w1_7 w1_8 w1_9 w1_10 w1_11 w1_12 w1_13 w1_14 w1_15 w1_16 w1_17 w0_0
  obtain ⟨m, hm⟩ : ∃ m, m = sizeN a1_17 := ⟨_, rfl⟩
  have hm4 := sizeN_is a1_17
  rw [← hm] at hm4
  have SZ := Lib.hid (fun W => size_c a1_17 hn W)
  rw [← hm] at SZ
  clear hm
  have hm8 : 1 ≤ m ∧ m ≤ 8 := by omega
  obtain ⟨r, hr⟩ : ∃ r, S.realsV bs 0 (gC [a1_1, a1_2, a1_3, a1_4, a1_5, a1_6, a1_7, a1_8, a1_9, a1_10, a1_11, a1_12] 9) (gC [a1_1, a1_2, a1_3, a1_4, a1_5, a1_6, a1_7, a1_8, a1_9, a1_10, a1_11, a1_12] 0) a1_13 2 a1_15 m [] 0 = r := ⟨_, rfl⟩
  have STO := Lib.hid (fun pm gm B W hW => Store_n hc hp hv hx hm4 hr pm gm B W hW)
  have HX := Lib.hid (fun hb hl => S.stores_nil (bs := bs) hm4 hb hl hv hr)
  have PF := Lib.hid (fun v W => rFault_c 2 v (by unfold I64; omega) W)
  have NA := Lib.hid (fun v W => rNone_c 2 v (by unfold I64; omega) W)
  unfold vFault at PF NA
  generalize (gC [a1_1, a1_2, a1_3, a1_4, a1_5, a1_6, a1_7, a1_8, a1_9, a1_10, a1_11, a1_12] 9) = sa at *
  generalize (gC [a1_1, a1_2, a1_3, a1_4, a1_5, a1_6, a1_7, a1_8, a1_9, a1_10, a1_11, a1_12] 0) = sb at *
  clear hr hc
  obtain ⟨rf, rall, rL, rn⟩ := r
  simp only at HX STO
  obtain ⟨bs2, hbs2⟩ : ∃ b2, b2 = S.storeX bs rall a1_16 := ⟨_, rfl⟩
  rw [← hbs2] at STO
  have HB2 := Lib.hid hbs2
  have hl2 := S.storeX_length rall bs a1_16
  rw [← hbs2] at hl2
  have HL2 := Lib.hid hl2
  clear hbs2 hl2
  rw [show vC [a1_1, a1_2, a1_3, a1_4, a1_5, a1_6, a1_7, a1_8, a1_9, a1_10, a1_11, a1_12] = .agg #[.int .u64 a1_1, .int .u64 a1_2, .int .u64 a1_3, .int .u64 a1_4, .int .u64 a1_5, .int .u64 a1_6, .int .u64 a1_7, .int .u64 a1_8, .int .u64 a1_9, .int .u64 a1_10, .int .u64 a1_11, .int .u64 a1_12] from rfl] at *
  have HR0 := Lib.hid ((Row.fresh w 70 [.int .u8 a0_0, .slice A0_1 n0_1 k0_1]).alloc (.cells #[.int .u8 a1_0, .int .u64 a1_1, .int .u64 a1_2, .int .u64 a1_3, .int .u64 a1_4, .int .u64 a1_5, .int .u64 a1_6, .int .u64 a1_7, .int .u64 a1_8, .int .u64 a1_9, .int .u64 a1_10, .int .u64 a1_11, .int .u64 a1_12, .int .i64 a1_13, .int .i64 a1_14, .int .u64 a1_15, .int .u64 a1_16, .int .u8 a1_17] 78))
  have HT0 := Lib.hid (Row.fresh (w.alloc (.cells #[.int .u8 a0_0, .slice A0_1 n0_1 k0_1] 70)) 78 [.int .u8 a1_0, .int .u64 a1_1, .int .u64 a1_2, .int .u64 a1_3, .int .u64 a1_4, .int .u64 a1_5, .int .u64 a1_6, .int .u64 a1_7, .int .u64 a1_8, .int .u64 a1_9, .int .u64 a1_10, .int .u64 a1_11, .int .u64 a1_12, .int .i64 a1_13, .int .i64 a1_14, .int .u64 a1_15, .int .u64 a1_16, .int .u8 a1_17])
  rw [show (w.alloc (.cells #[.int .u8 a0_0, .slice A0_1 n0_1 k0_1] 70)).heap.size = w.heap.size + 1 from Array.size_push ..] at HT0
  have HG0 := Lib.hid (gr_alloc (gr_alloc (gr_refl w none) (.cells #[.int .u8 a0_0, .slice A0_1 n0_1 k0_1] 70)) (.cells #[.int .u8 a1_0, .int .u64 a1_1, .int .u64 a1_2, .int .u64 a1_3, .int .u64 a1_4, .int .u64 a1_5, .int .u64 a1_6, .int .u64 a1_7, .int .u64 a1_8, .int .u64 a1_9, .int .u64 a1_10, .int .u64 a1_11, .int .u64 a1_12, .int .i64 a1_13, .int .i64 a1_14, .int .u64 a1_15, .int .u64 a1_16, .int .u8 a1_17] 78))
  unfold B64 at hv hx
  unfold I64 at hp hh
  go_enter Try.func8, Try.ntmps8
  go_wp2_with fail
  generalize (w.alloc (.cells #[.int .u8 a0_0, .slice A0_1 n0_1 k0_1] 70)).alloc (.cells #[.int .u8 a1_0, .int .u64 a1_1, .int .u64 a1_2, .int .u64 a1_3, .int .u64 a1_4, .int .u64 a1_5, .int .u64 a1_6, .int .u64 a1_7, .int .u64 a1_8, .int .u64 a1_9, .int .u64 a1_10, .int .u64 a1_11, .int .u64 a1_12, .int .i64 a1_13, .int .i64 a1_14, .int .u64 a1_15, .int .u64 a1_16, .int .u8 a1_17] 78) = V at *
  refine (shown13_c _).mono ?_
  rintro e w1 ⟨rfl, hG⟩
  have hR1 := HR0.out.grown hG (by simp)
  have hT1 := HT0.out.grown hG (by simp)
  have hG1 := gr_trans HG0.out hG
  have hE1 := (HE.out.turn (w' := w1) (fun ad had => cell_grown hG1 had (by simp))).more hG1.size
  clear HR0 HT0 HG0 HE hG
  obtain ⟨b, hb⟩ : ∃ b, b = w.heap.size := ⟨_, rfl⟩
  rw [← hb] at hR1 hT1 ⊢
  have HB := Lib.hid hb
  clear hb
  have m0 : w1.cell? ⟨b, 0, none⟩ = some (.int .u8 a0_0) := hR1.cell 0
  have m1 : w1.cell? ⟨b, 1, none⟩ = some (.slice A0_1 n0_1 k0_1) := hR1.cell 1
  have lt := hR1.lt
  go_wp2_with fail
  refine (BT.out _ hE1).mono ?_
  rintro e w2 ⟨pm, gm, p', g', ys, tr, rfl, hA, hgm, hQ, hgg, hY, hTr, hG, hgp⟩
  unfold vS vT
  simp only [Option.map_none]
  have hT2 := hT1.grown hG (by simp)
  have hg := gr_alloc (gr_refl w2 none) (.cells #[.pointer (some ⟨pm, 0, none⟩), .pointer none] 73)
  have hN := new2 w2 73 (.pointer (some ⟨pm, 0, none⟩)) (.pointer none)
  have hG2 := gr_trans hG1 hG
  have hL : Lv w 78 (b + 1) [.int .u8 a1_0, .int .u64 a1_1, .int .u64 a1_2, .int .u64 a1_3, .int .u64 a1_4, .int .u64 a1_5, .int .u64 a1_6, .int .u64 a1_7, .int .u64 a1_8, .int .u64 a1_9, .int .u64 a1_10, .int .u64 a1_11, .int .u64 a1_12, .int .i64 a1_13, .int .i64 a1_14, .int .u64 a1_15, .int .u64 a1_16, .int .u8 a1_17] w2.heap.size pm gm bs (w2.alloc (.cells #[.pointer (some ⟨pm, 0, none⟩), .pointer none] 73)) := ⟨hT2.grown hg (by simp), hN, ⟨hA.kept hg, by have := hG1.size; omega, rfl, rfl⟩, gr_trans hG2 hg⟩
  replace hQ := hQ.kept hg
  replace hY := hY.grown hg (by simp)
  have HGP := Lib.hid (show w.heap.size ≤ g' by have := hG1.size; omega)
  clear hgp hR1 hT1 hT2 hA hgm hTr hG hG1 hG2 hE1 hN hg m0 m1 lt BT
  go_upto_region 3 with (fail)
  generalize w2.alloc (.cells #[.pointer (some ⟨pm, 0, none⟩), .pointer none] 73) = W at *
  generalize w2.heap.size = s at *
  have hby := hL.st.mem.byt
  have hln := hL.st.mem.len
  have HBY := Lib.hid (And.intro hby hln)
  clear hby hln
  go_upto_region 5 with (fail)
  have k17 : W.cell? ⟨b + 1, 17, none⟩ = some (.int .u8 a1_17) := hL.opr.cell 17
  have lt := hL.opr.lt
  have HL := Lib.hid hL
  clear hL
  go_wp2_with fail
  refine (SZ.out _).mono ?_
  rintro e w3 ⟨rfl, rfl⟩
  have hL := HL.out
  clear HL k17 lt SZ
  go_upto_region 6 with (fail)
  have k0 : W.cell? ⟨b + 1, 0, none⟩ = some (.int .u8 a1_0) := hL.opr.cell 0
  have k1 : W.cell? ⟨b + 1, 1, none⟩ = some (.int .u64 a1_1) := hL.opr.cell 1
  have k2 : W.cell? ⟨b + 1, 2, none⟩ = some (.int .u64 a1_2) := hL.opr.cell 2
  have k3 : W.cell? ⟨b + 1, 3, none⟩ = some (.int .u64 a1_3) := hL.opr.cell 3
  have k4 : W.cell? ⟨b + 1, 4, none⟩ = some (.int .u64 a1_4) := hL.opr.cell 4
  have k5 : W.cell? ⟨b + 1, 5, none⟩ = some (.int .u64 a1_5) := hL.opr.cell 5
  have k6 : W.cell? ⟨b + 1, 6, none⟩ = some (.int .u64 a1_6) := hL.opr.cell 6
  have k7 : W.cell? ⟨b + 1, 7, none⟩ = some (.int .u64 a1_7) := hL.opr.cell 7
  have k8 : W.cell? ⟨b + 1, 8, none⟩ = some (.int .u64 a1_8) := hL.opr.cell 8
  have k9 : W.cell? ⟨b + 1, 9, none⟩ = some (.int .u64 a1_9) := hL.opr.cell 9
  have k10 : W.cell? ⟨b + 1, 10, none⟩ = some (.int .u64 a1_10) := hL.opr.cell 10
  have k11 : W.cell? ⟨b + 1, 11, none⟩ = some (.int .u64 a1_11) := hL.opr.cell 11
  have k12 : W.cell? ⟨b + 1, 12, none⟩ = some (.int .u64 a1_12) := hL.opr.cell 12
  have k13 : W.cell? ⟨b + 1, 13, none⟩ = some (.int .i64 a1_13) := hL.opr.cell 13
  have k14 : W.cell? ⟨b + 1, 14, none⟩ = some (.int .i64 a1_14) := hL.opr.cell 14
  have k15 : W.cell? ⟨b + 1, 15, none⟩ = some (.int .u64 a1_15) := hL.opr.cell 15
  have k16 : W.cell? ⟨b + 1, 16, none⟩ = some (.int .u64 a1_16) := hL.opr.cell 16
  have k17 : W.cell? ⟨b + 1, 17, none⟩ = some (.int .u8 a1_17) := hL.opr.cell 17
  have s0 : W.cell? ⟨s, 0, none⟩ = some (.pointer (some ⟨pm, 0, none⟩)) := hL.spa.cell 0
  have s1 : W.cell? ⟨s, 1, none⟩ = some (.pointer none) := hL.spa.cell 1
  have lt := hL.opr.lt
  have ls := hL.spa.lt
  have HL := Lib.hid hL
  clear hL
  go_wp2_with fail
  refine (STO.out _ _ _ _ HL.out.st).mono ?_
  rintro e u6 ⟨v, rfl, hA, hS, hF⟩
  have hL := HL.out.fr (by decide) (by decide) (by decide) hS hF
  replace hQ := QAt.fr hQ HL.out.st.mem hF hgg
  replace hY := HL.out.own hF hY (by decide) (by decide) (by decide)
  have hg := gr_alloc (gr_refl u6 none) (.cells #[.bool rf.isf, .int .i64 rf.cause, .int .u64 rf.val] 49)
  replace hL := hL.keep hg
  replace hQ := hQ.kept hg
  replace hY := hY.grown hg (by simp)
  have q6r := newF u6 (.bool rf.isf) (.int .i64 rf.cause) (.int .u64 rf.val)
  replace hA : Adr (u6.alloc (.cells #[.bool rf.isf, .int .i64 rf.cause, .int .u64 rf.val] 49)) v rall W.heap.size := by
    rcases hA with hA | ⟨g, h1, h2, h3⟩
    · exact .inl hA
    · exact .inr ⟨g, h1, h2.grown hg (by simp), h3⟩
  clear hg HL hS hF k0 k1 k2 k3 k4 k5 k6 k7 k8 k9 k10 k11 k12 k13 k14 k15 k16 k17 s0 s1 lt ls STO
  go_upto_region 7 with (fail)
  generalize u6.alloc (.cells #[.bool rf.isf, .int .i64 rf.cause, .int .u64 rf.val] 49) = W6 at *
  generalize u6.heap.size = q6 at *
  obtain ⟨N, hN⟩ : ∃ N, N = bs.length := ⟨_, rfl⟩
  have HN := Lib.hid hN
  have AL := Lib.hid (all_c (w := W6.drew) hL.st.mem.drew (show N = bs2.length by rw [hN, HL2.out]))
  have y0 : W6.cell? ⟨ys, 0, none⟩ = some (.pointer (some ⟨p', 0, none⟩)) := hY.cell 0
  have y1 := hQ.head
  rw [← hN] at y1
  clear hN
  have s0 : W6.cell? ⟨s, 0, none⟩ = some (.pointer (some ⟨pm, 0, none⟩)) := hL.spa.cell 0
  have KS : ∀ w', W6.grownBy w' none → (w'.cell? ⟨ys, 0, none⟩ = some (.pointer (some ⟨p', 0, none⟩)) ∧ w'.cell? ⟨p', 0, none⟩ = some (.slice (some ⟨g', 0, none⟩) N N) ∧ w'.cell? ⟨s, 0, none⟩ = some (.pointer (some ⟨pm, 0, none⟩)) ∧ W6.grownBy w' none) := fun w' h =>
    ⟨(hY.grown h (by simp)).cell 0, by have := (hQ.kept h).head; rwa [← HN.out] at this, (hL.spa.grown h (by simp)).cell 0, h⟩
  have HKS := Lib.hid KS
  have yl := hY.lt
  have yl2 := hQ.ptr.lt
  have ls := hL.spa.lt
  have HK := Lib.hid (And.intro hL (And.intro hQ (And.intro hY (And.intro q6r hA))))
  clear hL hQ hY q6r hA KS
  go_wp2_with fail
  go_region_held3 (fun w' => w'.cell? ⟨ys, 0, none⟩ = some (.pointer (some ⟨p', 0, none⟩)) ∧ w'.cell? ⟨p', 0, none⟩ = some (.slice (some ⟨g', 0, none⟩) N N) ∧ w'.cell? ⟨s, 0, none⟩ = some (.pointer (some ⟨pm, 0, none⟩)) ∧ W6.grownBy w' none)
    (first | (with_reducible assumption) | exact HKS.out _ (gr_drew (gr_refl _ none)) | exact HKS.out _ (gr_trans (gr_drew (gr_refl _ none)) (by assumption)))
    (first | (go_at_call 45; refine AL.out.mono ?_; rintro e w7 ⟨rfl, hR7, hG7⟩))
  rename_i w7 hR7 hG7 hHeld
  have hG : W6.grownBy w7 none := gr_trans (gr_drew (gr_refl W6 none)) hG7
  obtain ⟨hL, hQ, hY, q6r, hA⟩ := HK.out
  have hga : g' < W6.drew.heap.size := hQ.row.lt
  replace hL := hL.keep hG
  replace hQ := hQ.kept hG
  replace hY := hY.grown hG (by simp)
  replace q6r := q6r.grown hG (by simp)
  replace hA : Adr w7 v rall W.heap.size := by
    rcases hA with hA | ⟨g, h1, h2, h3⟩
    · exact .inl hA
    · exact .inr ⟨g, h1, h2.grown hG (by simp), h3⟩
  clear HK AL HKS hHeld y0 y1 s0 yl yl2 ls hG7 hG
  have hae : W6.drew.heap.size = W6.heap.size := rfl
  rw [hae] at hR7 hga
  clear hae
  generalize W6.heap.size = a at *
  go_upto_region 8 with (fail)
  obtain ⟨⟨i0, i1, i2⟩, -, li⟩ := fault_free q6r
  by_cases hf : rf.isf = true
  · obtain ⟨e1, e2, e3, e4⟩ := (HX.out HBY.out.1 HBY.out.2).2 hf
    obtain ⟨A, rfl⟩ : ∃ A, v = .slice A 0 0 := by
      rcases hA with ⟨-, h⟩ | ⟨g, h, -⟩
      · exact ⟨none, h⟩
      · rw [e1] at h; exact ⟨_, h⟩
    have hb2 : bs2 = bs := by rw [HB2.out, e1]; rfl
    rw [hb2] at hR7
    have HE := Lib.hid (And.intro e2 (And.intro e3 e4))
    have HK := Lib.hid (And.intro hL (And.intro hQ (And.intro hY hR7)))
    rw [hf] at i0
    clear hA hL hQ hY hR7 e1 e2 e3 e4 hb2
    go_wp2_with fail
    refine (PF.out _ _).mono ?_
    rintro e w8 ⟨rfl, hG⟩
    obtain ⟨hL, hQ, hY, hR7⟩ := HK.out
    have hg := gr_trans hG (gr_alloc (gr_refl w8 none) (.cells #[.bool true, .int .i64 (pfC 2), .int .u64 rf.val] 49))
    have q8r := newF w8 (.bool true) (.int .i64 (pfC 2)) (.int .u64 rf.val)
    replace hL := hL.keep hg
    replace hQ := hQ.kept hg
    replace hY := hY.grown hg (by simp)
    replace q6r := q6r.grown hg (by simp)
    replace hR7 := hR7.grown hg (by simp)
    clear HK hG hg i0 i1 i2 li
    go_upto_region 12 with (fail)
    generalize w8.alloc (.cells #[.bool true, .int .i64 (pfC 2), .int .u64 rf.val] 49) = W8 at *
    generalize w8.heap.size = q8 at *
    obtain ⟨⟨i0, i1, i2⟩, -, li⟩ := fault_free q6r
    have HK := Lib.hid (And.intro hL (And.intro hQ (And.intro hY (And.intro hR7 q8r))))
    clear hL hQ hY hR7 q8r
    go_wp2_with fail
    refine (NA.out _ _).mono ?_
    rintro e w9 ⟨rfl, hG⟩
    obtain ⟨hL, hQ, hY, hR7, q8r⟩ := HK.out
    have hg := gr_trans hG (gr_alloc (gr_refl w9 none) (.cells #[.bool true, .int .i64 (naC 2), .int .u64 rf.val] 49))
    have q9r := newF w9 (.bool true) (.int .i64 (naC 2)) (.int .u64 rf.val)
    replace hL := hL.keep hg
    replace hQ := hQ.kept hg
    replace hY := hY.grown hg (by simp)
    replace q6r := q6r.grown hg (by simp)
    replace hR7 := hR7.grown hg (by simp)
    replace q8r := q8r.grown hg (by simp)
    clear HK hG hg i0 i1 i2 li
    go_upto_region 13 with (fail)
    generalize w9.alloc (.cells #[.bool true, .int .i64 (naC 2), .int .u64 rf.val] 49) = W9 at *
    generalize w9.heap.size = q9 at *
    obtain ⟨⟨i0, i1, i2⟩, -, li⟩ := fault_free q6r
    obtain ⟨⟨j0, j1, j2⟩, -, lj⟩ := fault_free q8r
    obtain ⟨⟨n0, n1, n2⟩, -, ln⟩ := fault_free q9r
    have y0 : W9.cell? ⟨ys, 0, none⟩ = some (.pointer (some ⟨p', 0, none⟩)) := hY.cell 0
    have y1 := hQ.head
    rw [← HN.out] at y1
    have yl := hY.lt
    have yl2 := hQ.ptr.lt
    have k15 : W9.cell? ⟨b + 1, 15, none⟩ = some (.int .u64 a1_15) := hL.opr.cell 15
    have lo := hL.opr.lt
    have t1 := fun d => row_text hR7 hQ.byt HN.out d
    have t2 := fun d => row_text hQ.row hQ.byt HN.out d
    have HGR := Lib.hid hL.gr
    rw [hf] at i0
    obtain ⟨e2, e3, e4⟩ := HE.out
    have hw1 : IntKind.u64.wrap (rf.val - a1_15) = (rf.val - a1_15) % 18446744073709551616 := by rw [IntKind.wrap_u64]
    generalize (rf.val - a1_15) % 18446744073709551616 = df at *
    clear hL hQ hY hR7 q6r q8r q9r HE HX PF NA
    rcases e2 with e2 | e2
    · rw [e2] at i1
      have E1 := fun W => eql_Fs true (pfC 2) rf.val W
      go_wp2_with fail
      go_quiet (fail)
      go_wp2_with fail
      go_ret
      exact ⟨rfl, below_drewN (gr_below HGR.out) _⟩
    · rw [e2] at i1
      have E1 : ∀ W, (binOp .eql 49 (.agg #[.bool true, .int .i64 (naC 2), .int .u64 rf.val]) (.agg #[.bool true, .int .i64 (pfC 2), .int .u64 rf.val])).run Try.prog W = .ok (.bool false) W := fun W => by
        rw [eql_F, sameF_dec]; rfl
      have E2 := fun W => eql_Fs true (naC 2) rf.val W
      go_wp2_with fail
      go_quiet (fail)
      go_wp2_with fail
      go_ret
      exact ⟨rfl, below_drewN (gr_below HGR.out) _⟩
  · have hf' : rf.isf = false := by simpa using hf
    clear hf
    obtain ⟨e1, e2⟩ := (HX.out HBY.out.1 HBY.out.2).1 hf'
    obtain ⟨g, rfl, hrow, h64⟩ : ∃ g, v = .slice (some ⟨g, 0, none⟩) m m ∧ Row w7 g 35 (wrds rall) ∧ ∀ a ∈ rall, B64 a := by
      rcases hA with ⟨h, -⟩ | ⟨g, h1, h2, -, h4, -⟩
      · exfalso; rw [h] at e1; simp at e1; omega
      · rw [e1] at h1; exact ⟨g, h1, h2, h4⟩
    rw [hf'] at i0
    have hmn : ((m : Int) == 0) = false := by simp; omega
    have HK := Lib.hid (And.intro hL (And.intro hQ (And.intro hY (And.intro hR7 (And.intro hrow (And.intro e1 (And.intro e2 h64)))))))
    clear hA hL hQ hY hR7 hrow e1 e2 h64 HX PF NA
    rw [hf']
    clear hf'
    go_upto_region 14 with (fail)
    clear i0 i1 i2 li q6r
    go_wp2_with fail
    go_loopw [16] (fun x wr => ∃ i : Nat, x = .int .i64 i ∧ i ≤ m ∧ QAt wr p' g' (S.storeX bs (rall.take i) a1_16) ∧ w7.grownBy wr (some g')) (fun x _ => m - (intOf x).toNat)
    case atStart => exact ⟨0, rfl, Nat.zero_le _, by simpa [S.storeX] using HK.out.2.1, gr_refl _ _⟩
    case round =>
      obtain ⟨i, rfl, hi, hQ, hG⟩ := hrel
      obtain ⟨hL, hQ0, hY, hR7, hrow, e1, e2, h64⟩ := HK.out
      have hL1 := hL.opr.grown hG (some_ne (hL.opr.apart hQ0.row (by decide)))
      have hY1 := hY.grown hG (some_ne (hY.apart hQ0.row (by decide)))
      have hR1 := hR7.grown hG (some_ne (by omega))
      have hw1 := hrow.grown hG (some_ne (hrow.apart hQ0.row (by decide)))
      have hcl : (S.storeX bs (rall.take i) a1_16).length = N := by rw [S.storeX_length, HN.out]
      have hNl : N ≤ 65536 := by rw [HN.out]; exact HBY.out.2
      have HGE := Lib.hid (gr_row (gr_trans (gr_none hL.gr _) hG) HGP.out)
      by_cases hlt : i < m
      · have hir : i < rall.length := by omega
        obtain ⟨ai, hai⟩ : ∃ ai, ai = rall[i] := ⟨_, rfl⟩
        have hmem : ai ∈ rall := by rw [hai]; exact List.getElem_mem hir
        have hok := e2 ai hmem
        obtain ⟨f, hfe⟩ : ∃ f, f = offV ai := ⟨_, rfl⟩
        have hoff := has_off (ok_of hok).2
        have hai2 := (has_of (ok_of hok).2).2.1
        rw [← hfe] at hoff
        have hfN : f < N := by have := HN.out; omega
        have haf : ai = 2147483648 + (f : Int) := by omega
        have hcell : wr.cell? ⟨g, i, none⟩ = some (.int .u64 ai) := by rw [hw1.cell, hai]; simp [wrds, List.getElem?_eq_getElem hir]
        have hnext : S.storeX bs (rall.take (i + 1)) a1_16 = (S.storeX bs (rall.take i) a1_16).set f (a1_16 / 256 ^ i % 256) := by
          rw [List.take_succ_eq_append_getElem hir, ← hai, S.storeX_snoc, List.length_take, Nat.min_eq_left (by omega), S.put_set (by rw [S.storeX_length]; exact hok), hfe]
        have hqs := hQ.set (by decide) (i := f) (b := a1_16 / 256 ^ i % 256) (by rw [hcl]; exact hfN) (by omega)
        rw [← hnext] at hqs
        obtain ⟨z, hz⟩ : ∃ z, z = (S.storeX bs (rall.take i) a1_16).getD f 0 := ⟨_, rfl⟩
        have hc8 := hQ.cell (i := f) (by rw [hcl]; exact hfN)
        rw [← hz] at hc8
        have hf8 := hQ.row.free f
        have hl8 := hQ.row.lt
        have y0 : wr.cell? ⟨ys, 0, none⟩ = some (.pointer (some ⟨p', 0, none⟩)) := hY1.cell 0
        have y1 := hQ.head
        rw [hcl] at y1
        have yl := hY1.lt
        have yl2 := hQ.ptr.lt
        have k16 : wr.cell? ⟨b + 1, 16, none⟩ = some (.int .u64 a1_16) := hL1.cell 16
        have lo := hL1.lt
        have lg := hw1.lt
        have hff : 2147483648 + (f : Int) - 2147483648 = f := by omega
        have hw8 : IntKind.i64.wrap (8 * (i : Int)) = 8 * (i : Int) := i64_in (by omega)
        have hs := shr_8 a1_16 i
        have HNX := Lib.hid (And.intro hqs.drew (gr_drew (gr_set (i := f) hG (.int .u8 (a1_16 / 256 ^ i % 256)))))
        have hu8 : ∀ y : Int, IntKind.u8.wrap y = y % 256 := fun y => IntKind.wrap_u8 y
        obtain ⟨y, hy⟩ : ∃ y, y = a1_16 / 256 ^ i := ⟨_, rfl⟩
        rw [← hy] at HNX hs
        subst haf
        clear hL hQ hY hR7 hrow e1 e2 h64 hL1 hY1 hR1 hw1 hcl hai hmem hok hoff hai2 hnext hqs hz hG HGE hir hfe hy
        go_upto_region 20 with (fail)
        go_wp2_with fail
        refine wp_region_still_tail 15 (by kernel_rfl) (by kernel_rfl) ?_
        simp only [List.take_succ_cons, List.take_zero, List.drop_succ_cons, List.drop_zero]
        change wpStill Try.prog _ (World.drew wr) _ _ _
        repeat still_step
        refine wpStill_nil ?_
        change wpList _ _ _ _ _ (World.drew _)
        go_wp2_with fail
        go_roundw
        case rel => exact ⟨i + 1, by go_num, by omega, HNX.out.1, HNX.out.2⟩
        case measure => simp [intOf]; omega
      · obtain rfl : i = m := by omega
        have hbe : S.storeX bs (rall.take i) a1_16 = bs2 := by rw [HB2.out, List.take_of_length_le (by omega)]
        rw [hbe] at hQ hcl
        have y0 : wr.cell? ⟨ys, 0, none⟩ = some (.pointer (some ⟨p', 0, none⟩)) := hY1.cell 0
        have y1 := hQ.head
        rw [hcl] at y1
        have yl := hY1.lt
        have yl2 := hQ.ptr.lt
        have t1 := fun d => row_text hR1 hQ.byt hcl.symm d
        have t2 := fun d => row_text hQ.row hQ.byt hcl.symm d
        clear hL hQ hY hR7 hrow e1 e2 h64 hL1 hY1 hR1 hw1 hG hbe
        go_wp2_with fail
        go_quiet (fail)
        go_wp2_with fail
        go_ret
        exact ⟨rfl, below_drewN (gr_below HGE.out) _⟩

theorem own : ownKnob Try.prog.godebug = none := by kernel_rfl
theorem laidOut : laidOutB Try.prog = true := by kernel_rfl

set_option maxRecDepth 100000 in
theorem lifted (os : Os) (started : os.Started) (H : Type) (enc : TypeId × Value → H) :
    ReturnsInHanded {} Try.checked os 8 .any (Rows.spaceStoresSpec.pre6 enc Try.prog Try.f8 Rows.spaceStoresRow.domain false) (Rows.spaceStoresSpec.post enc Try.prog Try.f8 false true false false) := by
  refine returnsInHanded_of_change (C := Try.checked) own started (by kernel_rfl) Try.func8
    (ChangeSpec.witness6 (enc := enc) (C := Try.checked) false ⟨#[], #[.agg #[.int .u8 0, .slice none 0 0], .agg #[.int .u8 0, .int .u64 0, .int .u64 0, .int .u64 0, .int .u64 0, .int .u64 0, .int .u64 0, .int .u64 0, .int .u64 0, .int .u64 0, .int .u64 0, .int .u64 0, .int .u64 0, .int .i64 0, .int .i64 0, .int .u64 0, .int .u64 0, .int .u8 0]], []⟩ 8 (by kernel_rfl) (by kernel_rfl) (by kernel_rfl) (by kernel_rfl)) ?_
  intro W base args ds gs before hval0 hW hcnd _
  have hval : ∀ (j : Nat) t v, Try.f8.params[j]? = some t → args[j]? = some v → Value.okWide Try.prog W .any base t v := hval0
  have hW' := hW
  obtain ⟨p, q, hA0, hV, rfl, hfz, hnd⟩ := hW
  have hA : DataW.TrodAll enc Try.prog W 0 (fun _ => true) true Try.f8.params.toList args.toList ds p := hA0
  rw [Try.params8] at hA hval
  obtain ⟨v0, vs0, d0, ds0, p0, q0, hargs, rfl, rfl, h0, r0⟩ := trodAll_cons hA
  obtain ⟨v1, vs1, d1, ds1, p1, q1, rfl, rfl, rfl, h1, r1⟩ := trodAll_cons r0
  obtain ⟨rfl, rfl, rfl⟩ := trodAll_nil r1
  obtain rfl : args = #[v0, v1] := by cases args; simp_all
  obtain ⟨rfl, rfl⟩ := trodVars_none hV
  clear hA0 hval0 hA
  have k0 := h0
  have lt0 : ∀ x ∈ p0, x.block < W.heap.size := by obtain ⟨m, hm⟩ := k0; exact DataW.trod_lt m _ _ _ hm
  obtain ⟨xs0, rfl, l0, m0, f0⟩ := Op.open_struct Try.underlying70 (hval 0 70 v0 rfl rfl) h0
  rw [show Try.prog.cellsOf 70 = 2 from by kernel_rfl] at l0
  obtain _ | ⟨c0_0, xs0⟩ := xs0
  · simp at l0
  obtain _ | ⟨c0_1, xs0⟩ := xs0
  · simp at l0
  obtain _ | ⟨_, _⟩ := xs0
  rotate_left
  · simp at l0
  clear h0
  obtain ⟨zf0_0, gf0_0⟩ := f0 0 _ rfl
  replace gf0_0 : DataW.trod enc Try.prog W 0 (fun _ => true) true m0 5 [c0_0] = some zf0_0 := gf0_0
  obtain ⟨a0_0, e0_0, _, w0_0⟩ := DataW.trod_int Try.underlying5 gf0_0
  simp at e0_0; subst e0_0
  obtain ⟨zf0_1, gf0_1⟩ := f0 1 _ rfl
  replace gf0_1 : DataW.trod enc Try.prog W 0 (fun _ => true) true m0 68 [c0_1] = some zf0_1 := gf0_1
  obtain ⟨A0_1, n0_1, k0_1, e0_1, mc0_1, cc0_1, raw0_1⟩ := Op.read_items Try.underlying68 Try.underlying137 (by kernel_rfl) (by kernel_rfl) (by decide) gf0_1
  subst e0_1
  have el0_1 : ∀ i, i < n0_1 → ∃ ad, A0_1 = some ad ∧ ad.block < W.heap.size ∧ ∃ (x0 : Int) (x1 : Int), (W.cell? (ad.add (i * 2 + 0)) = some (.int .u32 x0) ∧ (Lit.int .u32 x0).wf = true) ∧ (W.cell? (ad.add (i * 2 + 1)) = some (.int .u64 x1) ∧ (Lit.int .u64 x1).wf = true) := by
    intro i hi
    obtain ⟨ad, hA, hb, n, hf⟩ := raw0_1 i hi
    obtain ⟨u0, yy0, hu0, ht0⟩ := hf 0 _ rfl
    obtain ⟨x0, ee0, _, ww0⟩ := DataW.trod_int Try.underlying40 ht0; simp only [List.cons.injEq, and_true] at ee0; subst ee0
    obtain ⟨u1, yy1, hu1, ht1⟩ := hf 1 _ rfl
    obtain ⟨x1, ee1, _, ww1⟩ := DataW.trod_int Try.underlying35 ht1; simp only [List.cons.injEq, and_true] at ee1; subst ee1
    exact ⟨ad, hA, hb, x0, x1, ⟨hu0, ww0⟩, ⟨hu1, ww1⟩⟩
  have k1 := h1
  have lt1 : ∀ x ∈ p1, x.block < W.heap.size := by obtain ⟨m, hm⟩ := k1; exact DataW.trod_lt m _ _ _ hm
  obtain ⟨xs1, rfl, l1, m1, f1⟩ := Op.open_struct Try.underlying78 (hval 1 78 v1 rfl rfl) h1
  rw [show Try.prog.cellsOf 78 = 18 from by kernel_rfl] at l1
  obtain _ | ⟨c1_0, xs1⟩ := xs1
  · simp at l1
  obtain _ | ⟨c1_1, xs1⟩ := xs1
  · simp at l1
  obtain _ | ⟨c1_2, xs1⟩ := xs1
  · simp at l1
  obtain _ | ⟨c1_3, xs1⟩ := xs1
  · simp at l1
  obtain _ | ⟨c1_4, xs1⟩ := xs1
  · simp at l1
  obtain _ | ⟨c1_5, xs1⟩ := xs1
  · simp at l1
  obtain _ | ⟨c1_6, xs1⟩ := xs1
  · simp at l1
  obtain _ | ⟨c1_7, xs1⟩ := xs1
  · simp at l1
  obtain _ | ⟨c1_8, xs1⟩ := xs1
  · simp at l1
  obtain _ | ⟨c1_9, xs1⟩ := xs1
  · simp at l1
  obtain _ | ⟨c1_10, xs1⟩ := xs1
  · simp at l1
  obtain _ | ⟨c1_11, xs1⟩ := xs1
  · simp at l1
  obtain _ | ⟨c1_12, xs1⟩ := xs1
  · simp at l1
  obtain _ | ⟨c1_13, xs1⟩ := xs1
  · simp at l1
  obtain _ | ⟨c1_14, xs1⟩ := xs1
  · simp at l1
  obtain _ | ⟨c1_15, xs1⟩ := xs1
  · simp at l1
  obtain _ | ⟨c1_16, xs1⟩ := xs1
  · simp at l1
  obtain _ | ⟨c1_17, xs1⟩ := xs1
  · simp at l1
  obtain _ | ⟨_, _⟩ := xs1
  rotate_left
  · simp at l1
  clear h1
  obtain ⟨zf1_0, gf1_0⟩ := f1 0 _ rfl
  replace gf1_0 : DataW.trod enc Try.prog W 0 (fun _ => true) true m1 5 [c1_0] = some zf1_0 := gf1_0
  obtain ⟨a1_0, e1_0, _, w1_0⟩ := DataW.trod_int Try.underlying5 gf1_0
  simp at e1_0; subst e1_0
  obtain ⟨zf1_1, gf1_1⟩ := f1 1 _ rfl
  replace gf1_1 : DataW.trod enc Try.prog W 0 (fun _ => true) true m1 39 [c1_1, c1_2, c1_3, c1_4, c1_5, c1_6, c1_7, c1_8, c1_9, c1_10, c1_11, c1_12] = some zf1_1 := gf1_1
  obtain ⟨mf1_1, ff1_1⟩ := Op.read_struct Try.underlying39 gf1_1
  obtain ⟨zff1_1_0, gff1_1_0⟩ := ff1_1 0 _ rfl
  replace gff1_1_0 : DataW.trod enc Try.prog W 0 (fun _ => true) true mf1_1 35 [c1_1] = some zff1_1_0 := gff1_1_0
  obtain ⟨a1_1, e1_1, _, w1_1⟩ := DataW.trod_int Try.underlying35 gff1_1_0
  simp at e1_1; subst e1_1
  obtain ⟨zff1_1_1, gff1_1_1⟩ := ff1_1 1 _ rfl
  replace gff1_1_1 : DataW.trod enc Try.prog W 0 (fun _ => true) true mf1_1 35 [c1_2] = some zff1_1_1 := gff1_1_1
  obtain ⟨a1_2, e1_2, _, w1_2⟩ := DataW.trod_int Try.underlying35 gff1_1_1
  simp at e1_2; subst e1_2
  obtain ⟨zff1_1_2, gff1_1_2⟩ := ff1_1 2 _ rfl
  replace gff1_1_2 : DataW.trod enc Try.prog W 0 (fun _ => true) true mf1_1 35 [c1_3] = some zff1_1_2 := gff1_1_2
  obtain ⟨a1_3, e1_3, _, w1_3⟩ := DataW.trod_int Try.underlying35 gff1_1_2
  simp at e1_3; subst e1_3
  obtain ⟨zff1_1_3, gff1_1_3⟩ := ff1_1 3 _ rfl
  replace gff1_1_3 : DataW.trod enc Try.prog W 0 (fun _ => true) true mf1_1 35 [c1_4] = some zff1_1_3 := gff1_1_3
  obtain ⟨a1_4, e1_4, _, w1_4⟩ := DataW.trod_int Try.underlying35 gff1_1_3
  simp at e1_4; subst e1_4
  obtain ⟨zff1_1_4, gff1_1_4⟩ := ff1_1 4 _ rfl
  replace gff1_1_4 : DataW.trod enc Try.prog W 0 (fun _ => true) true mf1_1 35 [c1_5] = some zff1_1_4 := gff1_1_4
  obtain ⟨a1_5, e1_5, _, w1_5⟩ := DataW.trod_int Try.underlying35 gff1_1_4
  simp at e1_5; subst e1_5
  obtain ⟨zff1_1_5, gff1_1_5⟩ := ff1_1 5 _ rfl
  replace gff1_1_5 : DataW.trod enc Try.prog W 0 (fun _ => true) true mf1_1 35 [c1_6] = some zff1_1_5 := gff1_1_5
  obtain ⟨a1_6, e1_6, _, w1_6⟩ := DataW.trod_int Try.underlying35 gff1_1_5
  simp at e1_6; subst e1_6
  obtain ⟨zff1_1_6, gff1_1_6⟩ := ff1_1 6 _ rfl
  replace gff1_1_6 : DataW.trod enc Try.prog W 0 (fun _ => true) true mf1_1 35 [c1_7] = some zff1_1_6 := gff1_1_6
  obtain ⟨a1_7, e1_7, _, w1_7⟩ := DataW.trod_int Try.underlying35 gff1_1_6
  simp at e1_7; subst e1_7
  obtain ⟨zff1_1_7, gff1_1_7⟩ := ff1_1 7 _ rfl
  replace gff1_1_7 : DataW.trod enc Try.prog W 0 (fun _ => true) true mf1_1 35 [c1_8] = some zff1_1_7 := gff1_1_7
  obtain ⟨a1_8, e1_8, _, w1_8⟩ := DataW.trod_int Try.underlying35 gff1_1_7
  simp at e1_8; subst e1_8
  obtain ⟨zff1_1_8, gff1_1_8⟩ := ff1_1 8 _ rfl
  replace gff1_1_8 : DataW.trod enc Try.prog W 0 (fun _ => true) true mf1_1 35 [c1_9] = some zff1_1_8 := gff1_1_8
  obtain ⟨a1_9, e1_9, _, w1_9⟩ := DataW.trod_int Try.underlying35 gff1_1_8
  simp at e1_9; subst e1_9
  obtain ⟨zff1_1_9, gff1_1_9⟩ := ff1_1 9 _ rfl
  replace gff1_1_9 : DataW.trod enc Try.prog W 0 (fun _ => true) true mf1_1 35 [c1_10] = some zff1_1_9 := gff1_1_9
  obtain ⟨a1_10, e1_10, _, w1_10⟩ := DataW.trod_int Try.underlying35 gff1_1_9
  simp at e1_10; subst e1_10
  obtain ⟨zff1_1_10, gff1_1_10⟩ := ff1_1 10 _ rfl
  replace gff1_1_10 : DataW.trod enc Try.prog W 0 (fun _ => true) true mf1_1 35 [c1_11] = some zff1_1_10 := gff1_1_10
  obtain ⟨a1_11, e1_11, _, w1_11⟩ := DataW.trod_int Try.underlying35 gff1_1_10
  simp at e1_11; subst e1_11
  obtain ⟨zff1_1_11, gff1_1_11⟩ := ff1_1 11 _ rfl
  replace gff1_1_11 : DataW.trod enc Try.prog W 0 (fun _ => true) true mf1_1 35 [c1_12] = some zff1_1_11 := gff1_1_11
  obtain ⟨a1_12, e1_12, _, w1_12⟩ := DataW.trod_int Try.underlying35 gff1_1_11
  simp at e1_12; subst e1_12
  obtain ⟨zf1_2, gf1_2⟩ := f1 2 _ rfl
  replace gf1_2 : DataW.trod enc Try.prog W 0 (fun _ => true) true m1 3 [c1_13] = some zf1_2 := gf1_2
  obtain ⟨a1_13, e1_13, _, w1_13⟩ := DataW.trod_int Try.underlying3 gf1_2
  simp at e1_13; subst e1_13
  obtain ⟨zf1_3, gf1_3⟩ := f1 3 _ rfl
  replace gf1_3 : DataW.trod enc Try.prog W 0 (fun _ => true) true m1 3 [c1_14] = some zf1_3 := gf1_3
  obtain ⟨a1_14, e1_14, _, w1_14⟩ := DataW.trod_int Try.underlying3 gf1_3
  simp at e1_14; subst e1_14
  obtain ⟨zf1_4, gf1_4⟩ := f1 4 _ rfl
  replace gf1_4 : DataW.trod enc Try.prog W 0 (fun _ => true) true m1 35 [c1_15] = some zf1_4 := gf1_4
  obtain ⟨a1_15, e1_15, _, w1_15⟩ := DataW.trod_int Try.underlying35 gf1_4
  simp at e1_15; subst e1_15
  obtain ⟨zf1_5, gf1_5⟩ := f1 5 _ rfl
  replace gf1_5 : DataW.trod enc Try.prog W 0 (fun _ => true) true m1 35 [c1_16] = some zf1_5 := gf1_5
  obtain ⟨a1_16, e1_16, _, w1_16⟩ := DataW.trod_int Try.underlying35 gf1_5
  simp at e1_16; subst e1_16
  obtain ⟨zf1_6, gf1_6⟩ := f1 6 _ rfl
  replace gf1_6 : DataW.trod enc Try.prog W 0 (fun _ => true) true m1 5 [c1_17] = some zf1_6 := gf1_6
  obtain ⟨a1_17, e1_17, _, w1_17⟩ := DataW.trod_int Try.underlying5 gf1_6
  simp at e1_17; subst e1_17
  refine (walk W a0_0 w0_0 A0_1 n0_1 k0_1 mc0_1 cc0_1 el0_1 a1_0 w1_0 a1_1 w1_1 a1_2 w1_2 a1_3 w1_3 a1_4 w1_4 a1_5 w1_5 a1_6 w1_6 a1_7 w1_7 a1_8 w1_8 a1_9 w1_9 a1_10 w1_10 a1_11 w1_11 a1_12 w1_12 a1_13 w1_13 a1_14 w1_14 a1_15 w1_15 a1_16 w1_16 a1_17 w1_17).mono fun e W' ⟨he, bel⟩ => ?_
  subst he
  exact ⟨_, rfl, _, _, _, [], _, [], hW', trodAll_mk1 (shut_bool Try.underlying4 _), (trodAll_cons_mk (Below.trod laidOut (by kernel_rfl) (of_decide_eq_true (by kernel_rfl)) k0 bel lt0) (trodAll_cons_mk (Below.trod laidOut (by kernel_rfl) (of_decide_eq_true (by kernel_rfl)) k1 bel lt1) trodAll_mk0)), rfl, bel.frame _, fun h => by cases h⟩

theorem over : Rows.spaceStoresRow.holds Try.pinned (OpenSpec.ofChange Rows.spaceStoresSpec) :=
  OpenClaim.holds_of_wide 8 Try.f8 rfl rfl rfl rfl rfl rfl rfl ⟨rfl, rfl, rfl, rfl, rfl⟩ rfl rfl rfl rfl rfl (by kernel_rfl) Try.func8 (by kernel_rfl)
    (of_decide_eq_true (by kernel_rfl)) (by unfold Func.isWrapper; first | (rw [if_pos (by decide +kernel)]; kernel_rfl) | (rw [if_neg (by decide +kernel)]; exact ⟨rfl, rfl⟩))
    (fun os started H enc _ => lifted os started H enc)

/-- The statement. -/
theorem proved : Rows.SpaceStoresSaid := over
#print axioms proved

end Go.Proofs.Ythhlmliejppdoaa.spaceStores
