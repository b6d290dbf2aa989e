/-
  Proved: for any memory and any load, the law SpaceBytes returns true: a load is what loads of its bytes are, also where it goes over a page's end, and it faults where the first of these does, or, if it is aligned, at its own address.
  Conditions: none beyond the statement's own.
-/
import Derived.Test.YthhlmliejppdoaaRows
import Derived.Test.YthhlmliejppdoaaLayO
import Derived.Lib.Hide
import Derived.Deep.Cut
import Derived.Test.YthhlmliejppdoaaSpL
namespace Go.Proofs.Ythhlmliejppdoaa.spaceBytes
open Go Go.ChangeShapes Go.WideShapes Go.ChangeAt Go.RowKit W M D A C P K
set_option linter.unusedVariables false
set_option linter.unusedSimpArgs false

set_option maxRecDepth 100000 in
set_option maxHeartbeats 8000000 in
theorem walk (w : World) (a0_0 : Int) (w0_0 : (Lit.int .u8 a0_0).wf = true) (A0_1 : Option Addr) (n0_1 k0_1 : Nat) (mc0_1 : n0_1 ≤ k0_1) (cc0_1 : k0_1 ≤ 9223372036854775807) (el0_1 : ∀ i, i < n0_1 → ∃ ad, A0_1 = some ad ∧ ad.block < w.heap.size ∧ ∃ (x0 : Int) (x1 : Int), (w.cell? (ad.add (i * 2 + 0)) = some (.int .u32 x0) ∧ (Lit.int .u32 x0).wf = true) ∧ (w.cell? (ad.add (i * 2 + 1)) = some (.int .u64 x1) ∧ (Lit.int .u64 x1).wf = true)) (a1_0 : Int) (w1_0 : (Lit.int .u8 a1_0).wf = true) (a1_1 : Int) (w1_1 : (Lit.int .u64 a1_1).wf = true) (a1_2 : Int) (w1_2 : (Lit.int .u64 a1_2).wf = true) (a1_3 : Int) (w1_3 : (Lit.int .u64 a1_3).wf = true) (a1_4 : Int) (w1_4 : (Lit.int .u64 a1_4).wf = true) (a1_5 : Int) (w1_5 : (Lit.int .u64 a1_5).wf = true) (a1_6 : Int) (w1_6 : (Lit.int .u64 a1_6).wf = true) (a1_7 : Int) (w1_7 : (Lit.int .u64 a1_7).wf = true) (a1_8 : Int) (w1_8 : (Lit.int .u64 a1_8).wf = true) (a1_9 : Int) (w1_9 : (Lit.int .u64 a1_9).wf = true) (a1_10 : Int) (w1_10 : (Lit.int .u64 a1_10).wf = true) (a1_11 : Int) (w1_11 : (Lit.int .u64 a1_11).wf = true) (a1_12 : Int) (w1_12 : (Lit.int .u64 a1_12).wf = true) (a1_13 : Int) (w1_13 : (Lit.int .i64 a1_13).wf = true) (a1_14 : Int) (w1_14 : (Lit.int .i64 a1_14).wf = true) (a1_15 : Int) (w1_15 : (Lit.int .u64 a1_15).wf = true) (a1_16 : Int) (w1_16 : (Lit.int .u64 a1_16).wf = true) (a1_17 : Int) (w1_17 : (Lit.int .u8 a1_17).wf = true) :
    Calls Try.prog 7 #[.agg #[.int .u8 a0_0, .slice A0_1 n0_1 k0_1], .agg #[.int .u8 a1_0, .int .u64 a1_1, .int .u64 a1_2, .int .u64 a1_3, .int .u64 a1_4, .int .u64 a1_5, .int .u64 a1_6, .int .u64 a1_7, .int .u64 a1_8, .int .u64 a1_9, .int .u64 a1_10, .int .u64 a1_11, .int .u64 a1_12, .int .i64 a1_13, .int .i64 a1_14, .int .u64 a1_15, .int .u64 a1_16, .int .u8 a1_17]] w fun e w' => e = .returned (.bool true) ∧ Below w.heap.size w w' := by
  have ha : 0 ≤ a0_0 ∧ a0_0 ≤ 255 := bounds_u8 w0_0
  have hc : C.Good [a1_1, a1_2, a1_3, a1_4, a1_5, a1_6, a1_7, a1_8, a1_9, a1_10, a1_11, a1_12] := good12 (bounds_u64 w1_1) (bounds_u64 w1_2) (bounds_u64 w1_3) (bounds_u64 w1_4) (bounds_u64 w1_5) (bounds_u64 w1_6) (bounds_u64 w1_7) (bounds_u64 w1_8) (bounds_u64 w1_9) (bounds_u64 w1_10) (bounds_u64 w1_11) (bounds_u64 w1_12)
  have hp : I64 a1_13 := bounds_i64 w1_13
  have hh : I64 a1_14 := bounds_i64 w1_14
  have hv : B64 a1_15 := bounds_u64 w1_15
  have hx : B64 a1_16 := bounds_u64 w1_16
  have hn : 0 ≤ a1_17 ∧ a1_17 ≤ 255 := bounds_u8 w1_17
  have hkd : 0 ≤ a1_0 ∧ a1_0 ≤ 255 := bounds_u8 w1_0
  obtain ⟨f, h, hE⟩ := elems_of el0_1
  obtain ⟨bs, hbs⟩ : ∃ bs, bs = fillV f h (min n0_1 64) (List.replicate ((1 + a0_0 % 16).toNat * 4096) 0) := ⟨_, rfl⟩
  have BT := Lib.hid (fun W hW => bothN_c (-1) (by unfold I64; omega) (by omega) a0_0 ha A0_1 n0_1 k0_1 mc0_1 cc0_1 f h W hW)
  rw [← hbs] at BT
  have HE := Lib.hid hE
  clear hbs el0_1 hE w1_0 w1_1 w1_2 w1_3 w1_4 w1_5 w1_6 w1_7 w1_8 w1_9 w1_10 w1_11 w1_12 w1_13 w1_14 w1_15 w1_16 w1_17 w0_0
  obtain ⟨m, hm⟩ : ∃ m, m = sizeN a1_17 := ⟨_, rfl⟩
  have hm4 := sizeN_is a1_17
  rw [← hm] at hm4
  have SZ := Lib.hid (fun W => size_c a1_17 hn W)
  rw [← hm] at SZ
  clear hm
  have hm8 : 1 ≤ m ∧ m ≤ 8 := by omega
  obtain ⟨r, hr⟩ : ∃ r, S.realsV bs 0 (gC [a1_1, a1_2, a1_3, a1_4, a1_5, a1_6, a1_7, a1_8, a1_9, a1_10, a1_11, a1_12] 9) (gC [a1_1, a1_2, a1_3, a1_4, a1_5, a1_6, a1_7, a1_8, a1_9, a1_10, a1_11, a1_12] 0) a1_13 1 a1_15 m [] 0 = r := ⟨_, rfl⟩
  obtain ⟨xa, hxa⟩ : ∃ x, S.loadX bs r.all = x := ⟨_, rfl⟩
  have LD := Lib.hid (fun pm gm B W hW => Load_n hc hp hv hm4 hr hxa pm gm B W hW)
  have HX := Lib.hid (fun hb hl => S.reals_nil (bs := bs) hm4 hb hl hv hr)
  have HA := Lib.hid hxa
  have LB := Lib.hid (fun i pm gm B W hl hW => Load_n (va := S.stepA a1_15 ((i : Nat) : Int)) (m := 1) hc hp (S.step_64 a1_15 i) (by omega) rfl (S.one_is (bs := bs) (sa := (gC [a1_1, a1_2, a1_3, a1_4, a1_5, a1_6, a1_7, a1_8, a1_9, a1_10, a1_11, a1_12] 9)) (st := (gC [a1_1, a1_2, a1_3, a1_4, a1_5, a1_6, a1_7, a1_8, a1_9, a1_10, a1_11, a1_12] 0)) (priv := a1_13) (kind := 1) (va := a1_15) i hl).2 pm gm B W hW)
  have LF := Lib.hid (fun i hl => (S.one_is (bs := bs) (sa := (gC [a1_1, a1_2, a1_3, a1_4, a1_5, a1_6, a1_7, a1_8, a1_9, a1_10, a1_11, a1_12] 9)) (st := (gC [a1_1, a1_2, a1_3, a1_4, a1_5, a1_6, a1_7, a1_8, a1_9, a1_10, a1_11, a1_12] 0)) (priv := a1_13) (kind := 1) (va := a1_15) i hl).1)
  have HGB := Lib.hid (fun hb i => S.gX_bd (bs := bs) hb (gC [a1_1, a1_2, a1_3, a1_4, a1_5, a1_6, a1_7, a1_8, a1_9, a1_10, a1_11, a1_12] 9) (gC [a1_1, a1_2, a1_3, a1_4, a1_5, a1_6, a1_7, a1_8, a1_9, a1_10, a1_11, a1_12] 0) a1_13 1 a1_15 i)
  generalize (gC [a1_1, a1_2, a1_3, a1_4, a1_5, a1_6, a1_7, a1_8, a1_9, a1_10, a1_11, a1_12] 9) = sa at *
  generalize (gC [a1_1, a1_2, a1_3, a1_4, a1_5, a1_6, a1_7, a1_8, a1_9, a1_10, a1_11, a1_12] 0) = sb at *
  clear hr hxa hc
  obtain ⟨rf, rall, rL, rn⟩ := r
  simp only at HX LD HA
  rw [show vC [a1_1, a1_2, a1_3, a1_4, a1_5, a1_6, a1_7, a1_8, a1_9, a1_10, a1_11, a1_12] = .agg #[.int .u64 a1_1, .int .u64 a1_2, .int .u64 a1_3, .int .u64 a1_4, .int .u64 a1_5, .int .u64 a1_6, .int .u64 a1_7, .int .u64 a1_8, .int .u64 a1_9, .int .u64 a1_10, .int .u64 a1_11, .int .u64 a1_12] from rfl] at *
  have HR0 := Lib.hid ((Row.fresh w 70 [.int .u8 a0_0, .slice A0_1 n0_1 k0_1]).alloc (.cells #[.int .u8 a1_0, .int .u64 a1_1, .int .u64 a1_2, .int .u64 a1_3, .int .u64 a1_4, .int .u64 a1_5, .int .u64 a1_6, .int .u64 a1_7, .int .u64 a1_8, .int .u64 a1_9, .int .u64 a1_10, .int .u64 a1_11, .int .u64 a1_12, .int .i64 a1_13, .int .i64 a1_14, .int .u64 a1_15, .int .u64 a1_16, .int .u8 a1_17] 78))
  have HT0 := Lib.hid (Row.fresh (w.alloc (.cells #[.int .u8 a0_0, .slice A0_1 n0_1 k0_1] 70)) 78 [.int .u8 a1_0, .int .u64 a1_1, .int .u64 a1_2, .int .u64 a1_3, .int .u64 a1_4, .int .u64 a1_5, .int .u64 a1_6, .int .u64 a1_7, .int .u64 a1_8, .int .u64 a1_9, .int .u64 a1_10, .int .u64 a1_11, .int .u64 a1_12, .int .i64 a1_13, .int .i64 a1_14, .int .u64 a1_15, .int .u64 a1_16, .int .u8 a1_17])
  rw [show (w.alloc (.cells #[.int .u8 a0_0, .slice A0_1 n0_1 k0_1] 70)).heap.size = w.heap.size + 1 from Array.size_push ..] at HT0
  have HG0 := Lib.hid (gr_alloc (gr_alloc (gr_refl w none) (.cells #[.int .u8 a0_0, .slice A0_1 n0_1 k0_1] 70)) (.cells #[.int .u8 a1_0, .int .u64 a1_1, .int .u64 a1_2, .int .u64 a1_3, .int .u64 a1_4, .int .u64 a1_5, .int .u64 a1_6, .int .u64 a1_7, .int .u64 a1_8, .int .u64 a1_9, .int .u64 a1_10, .int .u64 a1_11, .int .u64 a1_12, .int .i64 a1_13, .int .i64 a1_14, .int .u64 a1_15, .int .u64 a1_16, .int .u8 a1_17] 78))
  unfold B64 at hv hx
  unfold I64 at hp hh
  go_enter Try.func7, Try.ntmps7
  go_wp2_with fail
  generalize (w.alloc (.cells #[.int .u8 a0_0, .slice A0_1 n0_1 k0_1] 70)).alloc (.cells #[.int .u8 a1_0, .int .u64 a1_1, .int .u64 a1_2, .int .u64 a1_3, .int .u64 a1_4, .int .u64 a1_5, .int .u64 a1_6, .int .u64 a1_7, .int .u64 a1_8, .int .u64 a1_9, .int .u64 a1_10, .int .u64 a1_11, .int .u64 a1_12, .int .i64 a1_13, .int .i64 a1_14, .int .u64 a1_15, .int .u64 a1_16, .int .u8 a1_17] 78) = V at *
  refine (shown13_c _).mono ?_
  rintro e w1 ⟨rfl, hG⟩
  have hR1 := HR0.out.grown hG (by simp)
  have hT1 := HT0.out.grown hG (by simp)
  have hG1 := gr_trans HG0.out hG
  have hE1 := (HE.out.turn (w' := w1) (fun ad had => cell_grown hG1 had (by simp))).more hG1.size
  clear HR0 HT0 HG0 HE hG
  obtain ⟨b, hb⟩ : ∃ b, b = w.heap.size := ⟨_, rfl⟩
  rw [← hb] at hR1 hT1 ⊢
  have HB := Lib.hid hb
  clear hb
  have m0 : w1.cell? ⟨b, 0, none⟩ = some (.int .u8 a0_0) := hR1.cell 0
  have m1 : w1.cell? ⟨b, 1, none⟩ = some (.slice A0_1 n0_1 k0_1) := hR1.cell 1
  have lt := hR1.lt
  go_wp2_with fail
  refine (BT.out _ hE1).mono ?_
  rintro e w2 ⟨pm, gm, p', g', ys, tr, rfl, hA, hgm, hQ, hgg, hY, hTr, hG⟩
  unfold vS vT
  simp only [Option.map_none]
  have hT2 := hT1.grown hG (by simp)
  have hg := gr_alloc (gr_refl w2 none) (.cells #[.pointer (some ⟨pm, 0, none⟩), .pointer none] 73)
  have hN := new2 w2 73 (.pointer (some ⟨pm, 0, none⟩)) (.pointer none)
  have hG2 := gr_trans hG1 hG
  have hL : Lv w 78 (b + 1) [.int .u8 a1_0, .int .u64 a1_1, .int .u64 a1_2, .int .u64 a1_3, .int .u64 a1_4, .int .u64 a1_5, .int .u64 a1_6, .int .u64 a1_7, .int .u64 a1_8, .int .u64 a1_9, .int .u64 a1_10, .int .u64 a1_11, .int .u64 a1_12, .int .i64 a1_13, .int .i64 a1_14, .int .u64 a1_15, .int .u64 a1_16, .int .u8 a1_17] w2.heap.size pm gm bs (w2.alloc (.cells #[.pointer (some ⟨pm, 0, none⟩), .pointer none] 73)) := ⟨hT2.grown hg (by simp), hN, ⟨hA.kept hg, by have := hG1.size; omega, rfl, rfl⟩, gr_trans hG2 hg⟩
  replace hQ := hQ.kept hg
  replace hY := hY.grown hg (by simp)
  clear hR1 hT1 hT2 hA hgm hTr hG hG1 hG2 hE1 hN hg m0 m1 lt BT
  go_upto_region 3 with (fail)
  generalize w2.alloc (.cells #[.pointer (some ⟨pm, 0, none⟩), .pointer none] 73) = W at *
  generalize w2.heap.size = s at *
  clear hQ hgg hY
  have hby := hL.st.mem.byt
  have hln := hL.st.mem.len
  have HBY := Lib.hid (And.intro hby hln)
  clear hby hln
  go_upto_region 5 with (fail)
  have k17 : W.cell? ⟨b + 1, 17, none⟩ = some (.int .u8 a1_17) := hL.opr.cell 17
  have lt := hL.opr.lt
  have HL := Lib.hid hL
  clear hL
  go_wp2_with fail
  refine (SZ.out _).mono ?_
  rintro e w3 ⟨rfl, rfl⟩
  have hL := HL.out
  clear HL k17 lt SZ
  go_upto_region 6 with (fail)
  have k0 : W.cell? ⟨b + 1, 0, none⟩ = some (.int .u8 a1_0) := hL.opr.cell 0
  have k1 : W.cell? ⟨b + 1, 1, none⟩ = some (.int .u64 a1_1) := hL.opr.cell 1
  have k2 : W.cell? ⟨b + 1, 2, none⟩ = some (.int .u64 a1_2) := hL.opr.cell 2
  have k3 : W.cell? ⟨b + 1, 3, none⟩ = some (.int .u64 a1_3) := hL.opr.cell 3
  have k4 : W.cell? ⟨b + 1, 4, none⟩ = some (.int .u64 a1_4) := hL.opr.cell 4
  have k5 : W.cell? ⟨b + 1, 5, none⟩ = some (.int .u64 a1_5) := hL.opr.cell 5
  have k6 : W.cell? ⟨b + 1, 6, none⟩ = some (.int .u64 a1_6) := hL.opr.cell 6
  have k7 : W.cell? ⟨b + 1, 7, none⟩ = some (.int .u64 a1_7) := hL.opr.cell 7
  have k8 : W.cell? ⟨b + 1, 8, none⟩ = some (.int .u64 a1_8) := hL.opr.cell 8
  have k9 : W.cell? ⟨b + 1, 9, none⟩ = some (.int .u64 a1_9) := hL.opr.cell 9
  have k10 : W.cell? ⟨b + 1, 10, none⟩ = some (.int .u64 a1_10) := hL.opr.cell 10
  have k11 : W.cell? ⟨b + 1, 11, none⟩ = some (.int .u64 a1_11) := hL.opr.cell 11
  have k12 : W.cell? ⟨b + 1, 12, none⟩ = some (.int .u64 a1_12) := hL.opr.cell 12
  have k13 : W.cell? ⟨b + 1, 13, none⟩ = some (.int .i64 a1_13) := hL.opr.cell 13
  have k14 : W.cell? ⟨b + 1, 14, none⟩ = some (.int .i64 a1_14) := hL.opr.cell 14
  have k15 : W.cell? ⟨b + 1, 15, none⟩ = some (.int .u64 a1_15) := hL.opr.cell 15
  have k16 : W.cell? ⟨b + 1, 16, none⟩ = some (.int .u64 a1_16) := hL.opr.cell 16
  have k17 : W.cell? ⟨b + 1, 17, none⟩ = some (.int .u8 a1_17) := hL.opr.cell 17
  have s0 : W.cell? ⟨s, 0, none⟩ = some (.pointer (some ⟨pm, 0, none⟩)) := hL.spa.cell 0
  have s1 : W.cell? ⟨s, 1, none⟩ = some (.pointer none) := hL.spa.cell 1
  have lt := hL.opr.lt
  have ls := hL.spa.lt
  have HL := Lib.hid hL
  clear hL
  go_wp2_with fail
  refine (LD.out _ _ _ _ HL.out.st).mono ?_
  rintro e u6 ⟨rfl, hS, hF⟩
  have hL := HL.out.fr (by decide) (by decide) (by decide) hS hF
  have hg := gr_alloc (gr_refl u6 none) (.cells #[.bool rf.isf, .int .i64 rf.cause, .int .u64 rf.val] 49)
  replace hL := hL.keep hg
  have q6r := newF u6 (.bool rf.isf) (.int .i64 rf.cause) (.int .u64 rf.val)
  clear hg HL hS hF k0 k1 k2 k3 k4 k5 k6 k7 k8 k9 k10 k11 k12 k13 k14 k15 k16 k17 s0 s1 lt ls
  go_upto_region 7 with (fail)
  generalize u6.alloc (.cells #[.bool rf.isf, .int .i64 rf.cause, .int .u64 rf.val] 49) = W6 at *
  generalize u6.heap.size = q6 at *
  have HL6 := Lib.hid (And.intro hL q6r)
  clear hL q6r
  go_wp2_with fail
  go_loopw [13, 12] (fun x y wr => ∃ i : Nat, x = .int .i64 i ∧ i ≤ m ∧ y = .int .u64 (leV ((List.range i).map (S.gX bs sa sb a1_13 1 a1_15))) ∧ (∀ l, l < i → (S.bF bs sa sb a1_13 1 a1_15 l).isf = false) ∧ Lv w 78 (b + 1) [.int .u8 a1_0, .int .u64 a1_1, .int .u64 a1_2, .int .u64 a1_3, .int .u64 a1_4, .int .u64 a1_5, .int .u64 a1_6, .int .u64 a1_7, .int .u64 a1_8, .int .u64 a1_9, .int .u64 a1_10, .int .u64 a1_11, .int .u64 a1_12, .int .i64 a1_13, .int .i64 a1_14, .int .u64 a1_15, .int .u64 a1_16, .int .u8 a1_17] s pm gm bs wr ∧ Row wr q6 49 [.bool rf.isf, .int .i64 rf.cause, .int .u64 rf.val]) (fun x _ _ => m - (intOf x).toNat)
  case atStart => exact ⟨0, rfl, Nat.zero_le _, rfl, fun l hl => by omega, HL6.out⟩
  case round =>
    clear HL6
    obtain ⟨i, rfl, hi, rfl, hall, hL, q6r⟩ := hrel
    have HALL := Lib.hid hall
    clear hall
    by_cases hlt : i < m
    · have hst : (a1_15 + (i : Int)) % 18446744073709551616 = S.stepA a1_15 i := rfl
      have hst2 : IntKind.u64.wrap (a1_15 + (i : Int)) = S.stepA a1_15 i := by rw [IntKind.wrap_u64]; rfl
      have L1 := Lib.hid (fun pm gm B W hW => LB.out i pm gm B W HBY.out.2 hW)
      rw [LF.out i HBY.out.2] at L1
      have hgb := HGB.out HBY.out.1 i
      obtain ⟨hle0, hle1⟩ := S.le_bd HBY.out.1 sa sb a1_13 1 a1_15 i
      have hsm := S.le_step bs sa sb a1_13 1 a1_15 i
      have HFI := Lib.hid (fun h => (HX.out HBY.out.1 HBY.out.2).2 i hlt HALL.out h)
      have HBV := Lib.hid (fun h => S.bF_val (bs := bs) (sa := sa) (st := sb) (priv := a1_13) (kind := 1) (va := a1_15) (j := i) h)
      obtain ⟨gf, hgf⟩ : ∃ y, y = S.bF bs sa sb a1_13 1 a1_15 i := ⟨_, rfl⟩
      rw [← hgf] at L1 HFI HBV
      have HGF := Lib.hid hgf
      clear hgf
      generalize S.gX bs sa sb a1_13 1 a1_15 i = gx at *
      generalize S.stepA a1_15 (i : Int) = vi at *
      obtain ⟨sum, hsum⟩ : ∃ y, y = leV ((List.range i).map (S.gX bs sa sb a1_13 1 a1_15)) := ⟨_, rfl⟩
      rw [← hsum] at hle0 hle1 hsm ⊢
      have HSUM := Lib.hid hsm
      clear hsm hsum
      have k0 : wr.cell? ⟨b + 1, 0, none⟩ = some (.int .u8 a1_0) := hL.opr.cell 0
      have k1 : wr.cell? ⟨b + 1, 1, none⟩ = some (.int .u64 a1_1) := hL.opr.cell 1
      have k2 : wr.cell? ⟨b + 1, 2, none⟩ = some (.int .u64 a1_2) := hL.opr.cell 2
      have k3 : wr.cell? ⟨b + 1, 3, none⟩ = some (.int .u64 a1_3) := hL.opr.cell 3
      have k4 : wr.cell? ⟨b + 1, 4, none⟩ = some (.int .u64 a1_4) := hL.opr.cell 4
      have k5 : wr.cell? ⟨b + 1, 5, none⟩ = some (.int .u64 a1_5) := hL.opr.cell 5
      have k6 : wr.cell? ⟨b + 1, 6, none⟩ = some (.int .u64 a1_6) := hL.opr.cell 6
      have k7 : wr.cell? ⟨b + 1, 7, none⟩ = some (.int .u64 a1_7) := hL.opr.cell 7
      have k8 : wr.cell? ⟨b + 1, 8, none⟩ = some (.int .u64 a1_8) := hL.opr.cell 8
      have k9 : wr.cell? ⟨b + 1, 9, none⟩ = some (.int .u64 a1_9) := hL.opr.cell 9
      have k10 : wr.cell? ⟨b + 1, 10, none⟩ = some (.int .u64 a1_10) := hL.opr.cell 10
      have k11 : wr.cell? ⟨b + 1, 11, none⟩ = some (.int .u64 a1_11) := hL.opr.cell 11
      have k12 : wr.cell? ⟨b + 1, 12, none⟩ = some (.int .u64 a1_12) := hL.opr.cell 12
      have k13 : wr.cell? ⟨b + 1, 13, none⟩ = some (.int .i64 a1_13) := hL.opr.cell 13
      have k14 : wr.cell? ⟨b + 1, 14, none⟩ = some (.int .i64 a1_14) := hL.opr.cell 14
      have k15 : wr.cell? ⟨b + 1, 15, none⟩ = some (.int .u64 a1_15) := hL.opr.cell 15
      have k16 : wr.cell? ⟨b + 1, 16, none⟩ = some (.int .u64 a1_16) := hL.opr.cell 16
      have k17 : wr.cell? ⟨b + 1, 17, none⟩ = some (.int .u8 a1_17) := hL.opr.cell 17
      have s0 : wr.cell? ⟨s, 0, none⟩ = some (.pointer (some ⟨pm, 0, none⟩)) := hL.spa.cell 0
      have s1 : wr.cell? ⟨s, 1, none⟩ = some (.pointer none) := hL.spa.cell 1
      have lt := hL.opr.lt
      have ls := hL.spa.lt
      have HL := Lib.hid hL
      clear hL
      go_wp2_with fail
      refine (L1.out _ _ _ _ HL.out.st).mono ?_
      rintro e u7 ⟨rfl, hS, hF⟩
      have hL := HL.out.fr (by decide) (by decide) (by decide) hS hF
      replace q6r := HL.out.own hF q6r (by decide) (by decide) (by decide)
      have hg := gr_alloc (gr_refl u7 none) (.cells #[.bool gf.isf, .int .i64 gf.cause, .int .u64 gf.val] 49)
      replace hL := hL.keep hg
      have q7r := newF u7 (.bool gf.isf) (.int .i64 gf.cause) (.int .u64 gf.val)
      replace q6r := q6r.grown hg (by simp)
      clear hg HL hS hF k0 k1 k2 k3 k4 k5 k6 k7 k8 k9 k10 k11 k12 k13 k14 k15 k16 k17 s0 s1 lt ls
      go_upto_region 12 with (fail)
      generalize u7.alloc (.cells #[.bool gf.isf, .int .i64 gf.cause, .int .u64 gf.val] 49) = W7 at *
      generalize u7.heap.size = q7 at *
      obtain ⟨⟨i0, i1, i2⟩, -, li⟩ := fault_free q7r
      obtain ⟨⟨j0, j1, j2⟩, -, lj⟩ := fault_free q6r
      by_cases hgi : gf.isf = true
      · obtain ⟨e1, e2, e3, e4⟩ := HFI.out hgi
        have hx0 : xa = 0 := by rw [← HA.out, e2]; rfl
        have HGR := Lib.hid (gr_below hL.gr)
        have k15 : W7.cell? ⟨b + 1, 15, none⟩ = some (.int .u64 a1_15) := hL.opr.cell 15
        have lt := hL.opr.lt
        have hgv : gf.val = vi ∨ gf.val ≠ vi := by omega
        rw [hgi] at i0
        rw [e1] at j0
        rw [e3] at j1
        subst hx0
        have HV := Lib.hid (show rf.val = gf.val ∨ (rf.val ≠ gf.val ∧ a1_15 % m = 0 ∧ rf.val = a1_15) from by
          by_cases hq : rf.val = gf.val
          · exact .inl hq
          · right
            refine ⟨hq, ?_⟩
            have hv2 := HBV.out hgi
            rcases e4 with e4 | e4
            · exact absurd (e4.trans hv2.symm) hq
            · exact e4)
        clear hL q6r q7r HFI e1 e2 e3 e4 LD L1 LB
        rcases HV.out with hq | ⟨hq, hal, hq2⟩
        · rw [hq] at j2
          go_wp2_with fail
          go_ret
          exact ⟨rfl, HGR.out⟩
        · have hne : (rf.val == gf.val) = false := by simpa using hq
          rw [hq2] at hne j2
          go_wp2_with fail
          go_ret
          exact ⟨rfl, HGR.out⟩
      · have hgi' : gf.isf = false := by simpa using hgi
        rw [hgi'] at i0
        have HLQ := Lib.hid (And.intro hL q6r)
        have HI := Lib.hid (show ∀ l, l < i + 1 → (S.bF bs sa sb a1_13 1 a1_15 l).isf = false from fun l hl => by
          by_cases e : l = i
          · rw [e, ← HGF.out]; exact hgi'
          · exact HALL.out l (by omega))
        have hpw := M.pow_8 i
        clear hL q6r q7r HFI hgi L1 j0 j1 j2 lj
        go_wp2_with fail
        go_roundw
        case rel => exact ⟨i + 1, by go_num, by omega, by rw [HSUM.out]; exact S.sum_step (by omega) hle0 hle1 hgb, HI.out, HLQ.out.1, HLQ.out.2⟩
        case measure => simp [intOf]; omega
    · obtain rfl : i = m := by omega
      obtain ⟨e1, e2⟩ := (HX.out HBY.out.1 HBY.out.2).1 HALL.out
      have hxe : leV ((List.range i).map (S.gX bs sa sb a1_13 1 a1_15)) = xa := by
        rw [← HA.out, e2]
        exact S.loads_is HALL.out
      rw [hxe]
      obtain ⟨⟨j0, j1, j2⟩, -, lj⟩ := fault_free q6r
      rw [e1] at j0
      have HGR := Lib.hid (gr_below hL.gr)
      clear hL q6r e1 e2 LD LB
      go_wp2_with fail
      go_ret
      exact ⟨rfl, HGR.out⟩

theorem own : ownKnob Try.prog.godebug = none := by kernel_rfl
theorem laidOut : laidOutB Try.prog = true := by kernel_rfl

set_option maxRecDepth 100000 in
theorem lifted (os : Os) (started : os.Started) (H : Type) (enc : TypeId × Value → H) :
    ReturnsInHanded {} Try.checked os 7 .any (Rows.spaceBytesSpec.pre6 enc Try.prog Try.f7 Rows.spaceBytesRow.domain false) (Rows.spaceBytesSpec.post enc Try.prog Try.f7 false true false false) := by
  refine returnsInHanded_of_change (C := Try.checked) own started (by kernel_rfl) Try.func7
    (ChangeSpec.witness6 (enc := enc) (C := Try.checked) false ⟨#[], #[.agg #[.int .u8 0, .slice none 0 0], .agg #[.int .u8 0, .int .u64 0, .int .u64 0, .int .u64 0, .int .u64 0, .int .u64 0, .int .u64 0, .int .u64 0, .int .u64 0, .int .u64 0, .int .u64 0, .int .u64 0, .int .u64 0, .int .i64 0, .int .i64 0, .int .u64 0, .int .u64 0, .int .u8 0]], []⟩ 8 (by kernel_rfl) (by kernel_rfl) (by kernel_rfl) (by kernel_rfl)) ?_
  intro W base args ds gs before hval0 hW hcnd _
  have hval : ∀ (j : Nat) t v, Try.f7.params[j]? = some t → args[j]? = some v → Value.okWide Try.prog W .any base t v := hval0
  have hW' := hW
  obtain ⟨p, q, hA0, hV, rfl, hfz, hnd⟩ := hW
  have hA : DataW.TrodAll enc Try.prog W 0 (fun _ => true) true Try.f7.params.toList args.toList ds p := hA0
  rw [Try.params7] at hA hval
  obtain ⟨v0, vs0, d0, ds0, p0, q0, hargs, rfl, rfl, h0, r0⟩ := trodAll_cons hA
  obtain ⟨v1, vs1, d1, ds1, p1, q1, rfl, rfl, rfl, h1, r1⟩ := trodAll_cons r0
  obtain ⟨rfl, rfl, rfl⟩ := trodAll_nil r1
  obtain rfl : args = #[v0, v1] := by cases args; simp_all
  obtain ⟨rfl, rfl⟩ := trodVars_none hV
  clear hA0 hval0 hA
  have k0 := h0
  have lt0 : ∀ x ∈ p0, x.block < W.heap.size := by obtain ⟨m, hm⟩ := k0; exact DataW.trod_lt m _ _ _ hm
  obtain ⟨xs0, rfl, l0, m0, f0⟩ := Op.open_struct Try.underlying70 (hval 0 70 v0 rfl rfl) h0
  rw [show Try.prog.cellsOf 70 = 2 from by kernel_rfl] at l0
  obtain _ | ⟨c0_0, xs0⟩ := xs0
  · simp at l0
  obtain _ | ⟨c0_1, xs0⟩ := xs0
  · simp at l0
  obtain _ | ⟨_, _⟩ := xs0
  rotate_left
  · simp at l0
  clear h0
  obtain ⟨zf0_0, gf0_0⟩ := f0 0 _ rfl
  replace gf0_0 : DataW.trod enc Try.prog W 0 (fun _ => true) true m0 5 [c0_0] = some zf0_0 := gf0_0
  obtain ⟨a0_0, e0_0, _, w0_0⟩ := DataW.trod_int Try.underlying5 gf0_0
  simp at e0_0; subst e0_0
  obtain ⟨zf0_1, gf0_1⟩ := f0 1 _ rfl
  replace gf0_1 : DataW.trod enc Try.prog W 0 (fun _ => true) true m0 68 [c0_1] = some zf0_1 := gf0_1
  obtain ⟨A0_1, n0_1, k0_1, e0_1, mc0_1, cc0_1, raw0_1⟩ := Op.read_items Try.underlying68 Try.underlying137 (by kernel_rfl) (by kernel_rfl) (by decide) gf0_1
  subst e0_1
  have el0_1 : ∀ i, i < n0_1 → ∃ ad, A0_1 = some ad ∧ ad.block < W.heap.size ∧ ∃ (x0 : Int) (x1 : Int), (W.cell? (ad.add (i * 2 + 0)) = some (.int .u32 x0) ∧ (Lit.int .u32 x0).wf = true) ∧ (W.cell? (ad.add (i * 2 + 1)) = some (.int .u64 x1) ∧ (Lit.int .u64 x1).wf = true) := by
    intro i hi
    obtain ⟨ad, hA, hb, n, hf⟩ := raw0_1 i hi
    obtain ⟨u0, yy0, hu0, ht0⟩ := hf 0 _ rfl
    obtain ⟨x0, ee0, _, ww0⟩ := DataW.trod_int Try.underlying40 ht0; simp only [List.cons.injEq, and_true] at ee0; subst ee0
    obtain ⟨u1, yy1, hu1, ht1⟩ := hf 1 _ rfl
    obtain ⟨x1, ee1, _, ww1⟩ := DataW.trod_int Try.underlying35 ht1; simp only [List.cons.injEq, and_true] at ee1; subst ee1
    exact ⟨ad, hA, hb, x0, x1, ⟨hu0, ww0⟩, ⟨hu1, ww1⟩⟩
  have k1 := h1
  have lt1 : ∀ x ∈ p1, x.block < W.heap.size := by obtain ⟨m, hm⟩ := k1; exact DataW.trod_lt m _ _ _ hm
  obtain ⟨xs1, rfl, l1, m1, f1⟩ := Op.open_struct Try.underlying78 (hval 1 78 v1 rfl rfl) h1
  rw [show Try.prog.cellsOf 78 = 18 from by kernel_rfl] at l1
  obtain _ | ⟨c1_0, xs1⟩ := xs1
  · simp at l1
  obtain _ | ⟨c1_1, xs1⟩ := xs1
  · simp at l1
  obtain _ | ⟨c1_2, xs1⟩ := xs1
  · simp at l1
  obtain _ | ⟨c1_3, xs1⟩ := xs1
  · simp at l1
  obtain _ | ⟨c1_4, xs1⟩ := xs1
  · simp at l1
  obtain _ | ⟨c1_5, xs1⟩ := xs1
  · simp at l1
  obtain _ | ⟨c1_6, xs1⟩ := xs1
  · simp at l1
  obtain _ | ⟨c1_7, xs1⟩ := xs1
  · simp at l1
  obtain _ | ⟨c1_8, xs1⟩ := xs1
  · simp at l1
  obtain _ | ⟨c1_9, xs1⟩ := xs1
  · simp at l1
  obtain _ | ⟨c1_10, xs1⟩ := xs1
  · simp at l1
  obtain _ | ⟨c1_11, xs1⟩ := xs1
  · simp at l1
  obtain _ | ⟨c1_12, xs1⟩ := xs1
  · simp at l1
  obtain _ | ⟨c1_13, xs1⟩ := xs1
  · simp at l1
  obtain _ | ⟨c1_14, xs1⟩ := xs1
  · simp at l1
  obtain _ | ⟨c1_15, xs1⟩ := xs1
  · simp at l1
  obtain _ | ⟨c1_16, xs1⟩ := xs1
  · simp at l1
  obtain _ | ⟨c1_17, xs1⟩ := xs1
  · simp at l1
  obtain _ | ⟨_, _⟩ := xs1
  rotate_left
  · simp at l1
  clear h1
  obtain ⟨zf1_0, gf1_0⟩ := f1 0 _ rfl
  replace gf1_0 : DataW.trod enc Try.prog W 0 (fun _ => true) true m1 5 [c1_0] = some zf1_0 := gf1_0
  obtain ⟨a1_0, e1_0, _, w1_0⟩ := DataW.trod_int Try.underlying5 gf1_0
  simp at e1_0; subst e1_0
  obtain ⟨zf1_1, gf1_1⟩ := f1 1 _ rfl
  replace gf1_1 : DataW.trod enc Try.prog W 0 (fun _ => true) true m1 39 [c1_1, c1_2, c1_3, c1_4, c1_5, c1_6, c1_7, c1_8, c1_9, c1_10, c1_11, c1_12] = some zf1_1 := gf1_1
  obtain ⟨mf1_1, ff1_1⟩ := Op.read_struct Try.underlying39 gf1_1
  obtain ⟨zff1_1_0, gff1_1_0⟩ := ff1_1 0 _ rfl
  replace gff1_1_0 : DataW.trod enc Try.prog W 0 (fun _ => true) true mf1_1 35 [c1_1] = some zff1_1_0 := gff1_1_0
  obtain ⟨a1_1, e1_1, _, w1_1⟩ := DataW.trod_int Try.underlying35 gff1_1_0
  simp at e1_1; subst e1_1
  obtain ⟨zff1_1_1, gff1_1_1⟩ := ff1_1 1 _ rfl
  replace gff1_1_1 : DataW.trod enc Try.prog W 0 (fun _ => true) true mf1_1 35 [c1_2] = some zff1_1_1 := gff1_1_1
  obtain ⟨a1_2, e1_2, _, w1_2⟩ := DataW.trod_int Try.underlying35 gff1_1_1
  simp at e1_2; subst e1_2
  obtain ⟨zff1_1_2, gff1_1_2⟩ := ff1_1 2 _ rfl
  replace gff1_1_2 : DataW.trod enc Try.prog W 0 (fun _ => true) true mf1_1 35 [c1_3] = some zff1_1_2 := gff1_1_2
  obtain ⟨a1_3, e1_3, _, w1_3⟩ := DataW.trod_int Try.underlying35 gff1_1_2
  simp at e1_3; subst e1_3
  obtain ⟨zff1_1_3, gff1_1_3⟩ := ff1_1 3 _ rfl
  replace gff1_1_3 : DataW.trod enc Try.prog W 0 (fun _ => true) true mf1_1 35 [c1_4] = some zff1_1_3 := gff1_1_3
  obtain ⟨a1_4, e1_4, _, w1_4⟩ := DataW.trod_int Try.underlying35 gff1_1_3
  simp at e1_4; subst e1_4
  obtain ⟨zff1_1_4, gff1_1_4⟩ := ff1_1 4 _ rfl
  replace gff1_1_4 : DataW.trod enc Try.prog W 0 (fun _ => true) true mf1_1 35 [c1_5] = some zff1_1_4 := gff1_1_4
  obtain ⟨a1_5, e1_5, _, w1_5⟩ := DataW.trod_int Try.underlying35 gff1_1_4
  simp at e1_5; subst e1_5
  obtain ⟨zff1_1_5, gff1_1_5⟩ := ff1_1 5 _ rfl
  replace gff1_1_5 : DataW.trod enc Try.prog W 0 (fun _ => true) true mf1_1 35 [c1_6] = some zff1_1_5 := gff1_1_5
  obtain ⟨a1_6, e1_6, _, w1_6⟩ := DataW.trod_int Try.underlying35 gff1_1_5
  simp at e1_6; subst e1_6
  obtain ⟨zff1_1_6, gff1_1_6⟩ := ff1_1 6 _ rfl
  replace gff1_1_6 : DataW.trod enc Try.prog W 0 (fun _ => true) true mf1_1 35 [c1_7] = some zff1_1_6 := gff1_1_6
  obtain ⟨a1_7, e1_7, _, w1_7⟩ := DataW.trod_int Try.underlying35 gff1_1_6
  simp at e1_7; subst e1_7
  obtain ⟨zff1_1_7, gff1_1_7⟩ := ff1_1 7 _ rfl
  replace gff1_1_7 : DataW.trod enc Try.prog W 0 (fun _ => true) true mf1_1 35 [c1_8] = some zff1_1_7 := gff1_1_7
  obtain ⟨a1_8, e1_8, _, w1_8⟩ := DataW.trod_int Try.underlying35 gff1_1_7
  simp at e1_8; subst e1_8
  obtain ⟨zff1_1_8, gff1_1_8⟩ := ff1_1 8 _ rfl
  replace gff1_1_8 : DataW.trod enc Try.prog W 0 (fun _ => true) true mf1_1 35 [c1_9] = some zff1_1_8 := gff1_1_8
  obtain ⟨a1_9, e1_9, _, w1_9⟩ := DataW.trod_int Try.underlying35 gff1_1_8
  simp at e1_9; subst e1_9
  obtain ⟨zff1_1_9, gff1_1_9⟩ := ff1_1 9 _ rfl
  replace gff1_1_9 : DataW.trod enc Try.prog W 0 (fun _ => true) true mf1_1 35 [c1_10] = some zff1_1_9 := gff1_1_9
  obtain ⟨a1_10, e1_10, _, w1_10⟩ := DataW.trod_int Try.underlying35 gff1_1_9
  simp at e1_10; subst e1_10
  obtain ⟨zff1_1_10, gff1_1_10⟩ := ff1_1 10 _ rfl
  replace gff1_1_10 : DataW.trod enc Try.prog W 0 (fun _ => true) true mf1_1 35 [c1_11] = some zff1_1_10 := gff1_1_10
  obtain ⟨a1_11, e1_11, _, w1_11⟩ := DataW.trod_int Try.underlying35 gff1_1_10
  simp at e1_11; subst e1_11
  obtain ⟨zff1_1_11, gff1_1_11⟩ := ff1_1 11 _ rfl
  replace gff1_1_11 : DataW.trod enc Try.prog W 0 (fun _ => true) true mf1_1 35 [c1_12] = some zff1_1_11 := gff1_1_11
  obtain ⟨a1_12, e1_12, _, w1_12⟩ := DataW.trod_int Try.underlying35 gff1_1_11
  simp at e1_12; subst e1_12
  obtain ⟨zf1_2, gf1_2⟩ := f1 2 _ rfl
  replace gf1_2 : DataW.trod enc Try.prog W 0 (fun _ => true) true m1 3 [c1_13] = some zf1_2 := gf1_2
  obtain ⟨a1_13, e1_13, _, w1_13⟩ := DataW.trod_int Try.underlying3 gf1_2
  simp at e1_13; subst e1_13
  obtain ⟨zf1_3, gf1_3⟩ := f1 3 _ rfl
  replace gf1_3 : DataW.trod enc Try.prog W 0 (fun _ => true) true m1 3 [c1_14] = some zf1_3 := gf1_3
  obtain ⟨a1_14, e1_14, _, w1_14⟩ := DataW.trod_int Try.underlying3 gf1_3
  simp at e1_14; subst e1_14
  obtain ⟨zf1_4, gf1_4⟩ := f1 4 _ rfl
  replace gf1_4 : DataW.trod enc Try.prog W 0 (fun _ => true) true m1 35 [c1_15] = some zf1_4 := gf1_4
  obtain ⟨a1_15, e1_15, _, w1_15⟩ := DataW.trod_int Try.underlying35 gf1_4
  simp at e1_15; subst e1_15
  obtain ⟨zf1_5, gf1_5⟩ := f1 5 _ rfl
  replace gf1_5 : DataW.trod enc Try.prog W 0 (fun _ => true) true m1 35 [c1_16] = some zf1_5 := gf1_5
  obtain ⟨a1_16, e1_16, _, w1_16⟩ := DataW.trod_int Try.underlying35 gf1_5
  simp at e1_16; subst e1_16
  obtain ⟨zf1_6, gf1_6⟩ := f1 6 _ rfl
  replace gf1_6 : DataW.trod enc Try.prog W 0 (fun _ => true) true m1 5 [c1_17] = some zf1_6 := gf1_6
  obtain ⟨a1_17, e1_17, _, w1_17⟩ := DataW.trod_int Try.underlying5 gf1_6
  simp at e1_17; subst e1_17
  refine (walk W a0_0 w0_0 A0_1 n0_1 k0_1 mc0_1 cc0_1 el0_1 a1_0 w1_0 a1_1 w1_1 a1_2 w1_2 a1_3 w1_3 a1_4 w1_4 a1_5 w1_5 a1_6 w1_6 a1_7 w1_7 a1_8 w1_8 a1_9 w1_9 a1_10 w1_10 a1_11 w1_11 a1_12 w1_12 a1_13 w1_13 a1_14 w1_14 a1_15 w1_15 a1_16 w1_16 a1_17 w1_17).mono fun e W' ⟨he, bel⟩ => ?_
  subst he
  exact ⟨_, rfl, _, _, _, [], _, [], hW', trodAll_mk1 (shut_bool Try.underlying4 _), (trodAll_cons_mk (Below.trod laidOut (by kernel_rfl) (of_decide_eq_true (by kernel_rfl)) k0 bel lt0) (trodAll_cons_mk (Below.trod laidOut (by kernel_rfl) (of_decide_eq_true (by kernel_rfl)) k1 bel lt1) trodAll_mk0)), rfl, bel.frame _, fun h => by cases h⟩

theorem over : Rows.spaceBytesRow.holds Try.pinned (OpenSpec.ofChange Rows.spaceBytesSpec) :=
  OpenClaim.holds_of_wide 7 Try.f7 rfl rfl rfl rfl rfl rfl rfl ⟨rfl, rfl, rfl, rfl, rfl⟩ rfl rfl rfl rfl rfl (by kernel_rfl) Try.func7 (by kernel_rfl)
    (of_decide_eq_true (by kernel_rfl)) (by unfold Func.isWrapper; first | (rw [if_pos (by decide +kernel)]; kernel_rfl) | (rw [if_neg (by decide +kernel)]; exact ⟨rfl, rfl⟩))
    (fun os started H enc _ => lifted os started H enc)

/-- The statement. -/
theorem proved : Rows.SpaceBytesSaid := over
#print axioms proved

end Go.Proofs.Ythhlmliejppdoaa.spaceBytes
