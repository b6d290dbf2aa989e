/-
  Proved: for any memory and any access, the law SpaceKeeps returns true: an access by what keeps leaves, and has none yet, is as one without, with the same memory then.
  Conditions: none beyond the statement's own.
-/
import Derived.Test.YthhlmliejppdoaaRows
import Derived.Test.YthhlmliejppdoaaLayO
import Derived.Lib.Hide
import Derived.Deep.Cut
import Derived.Test.YthhlmliejppdoaaSpL
import Derived.Test.YthhlmliejppdoaaLayQ
import Derived.Test.YthhlmliejppdoaaLayB
import Derived.Deep.RegionHeld3
namespace Go.Proofs.Ythhlmliejppdoaa.spaceKeeps
open Go Go.ChangeShapes Go.WideShapes Go.ChangeAt Go.RowKit W M D A C P K
set_option linter.unusedVariables false
set_option linter.unusedSimpArgs false

structure Kv (w : World) (b s t pm gm pm2 gm2 ys p' g' tl : Nat) (yl l : List Value) (bs bs1 bs2 : List Int) (wr : World) : Prop where
  opr : Row wr (b + 1) 78 l
  spa : Row wr s 73 [.pointer (some ⟨pm, 0, none⟩), .pointer (some ⟨tl, 0, none⟩)]
  spb : Row wr t 73 [.pointer (some ⟨pm2, 0, none⟩), .pointer none]
  m1 : RAt wr pm gm bs1
  m2 : RAt wr pm2 gm2 bs2
  yr : Row wr ys 93 (.pointer (some ⟨p', 0, none⟩) :: yl)
  q : QAt wr p' g' bs
  gr : w.grownBy wr none
  ne : gm ≠ gm2 ∧ g' ≠ gm ∧ g' ≠ gm2
section
variable {w wr ws : World} {b s t pm gm pm2 gm2 ys p' g' tl : Nat} {yl l : List Value} {bs bs1 bs2 bs3 : List Int}
theorem Kv.keep (h : Kv w b s t pm gm pm2 gm2 ys p' g' tl yl l bs bs1 bs2 wr) (hg : wr.grownBy ws none) : Kv w b s t pm gm pm2 gm2 ys p' g' tl yl l bs bs1 bs2 ws :=
  ⟨h.opr.grown hg (by simp), h.spa.grown hg (by simp), h.spb.grown hg (by simp), h.m1.kept hg, h.m2.kept hg, h.yr.grown hg (by simp), h.q.kept hg, gr_trans h.gr hg, h.ne⟩
theorem Kv.set (h : Kv w b s t pm gm pm2 gm2 ys p' g' tl yl l bs bs1 bs2 wr) {f : Nat} {x : List Value} (hr : Row wr f 49 x) (hg : wr.grownBy ws (some f)) (hf : w.heap.size ≤ f) : Kv w b s t pm gm pm2 gm2 ys p' g' tl yl l bs bs1 bs2 ws :=
  ⟨h.opr.grown hg (some_ne (h.opr.apart hr (by decide))), h.spa.grown hg (some_ne (h.spa.apart hr (by decide))), h.spb.grown hg (some_ne (h.spb.apart hr (by decide))),
   h.m1.grown hg (some_ne (h.m1.ptr.apart hr (by decide))) (some_ne (h.m1.row.apart hr (by decide))), h.m2.grown hg (some_ne (h.m2.ptr.apart hr (by decide))) (some_ne (h.m2.row.apart hr (by decide))),
   h.yr.grown hg (some_ne (h.yr.apart hr (by decide))), h.q.grown hg (some_ne (h.q.ptr.apart hr (by decide))) (some_ne (h.q.row.apart hr (by decide))), gr_row (gr_trans (gr_none h.gr _) hg) hf, h.ne⟩
theorem Kv.fr1 (h : Kv w b s t pm gm pm2 gm2 ys p' g' tl yl l bs bs1 bs2 wr) {B : Nat} (hF : Fr B gm wr ws) (hB : w.heap.size ≤ B) (hm : RAt ws pm gm bs3) : Kv w b s t pm gm pm2 gm2 ys p' g' tl yl l bs bs3 bs2 ws :=
  ⟨hF.row h.opr (by decide) (by decide) (h.opr.apart h.m1.row (by decide)), hF.row h.spa (by decide) (by decide) (h.spa.apart h.m1.row (by decide)), hF.row h.spb (by decide) (by decide) (h.spb.apart h.m1.row (by decide)), hm,
   ⟨hF.row h.m2.ptr (by decide) (by decide) (h.m2.ptr.apart h.m1.row (by decide)), hF.row h.m2.row (by decide) (by decide) (fun e => h.ne.1 e.symm), h.m2.byt, h.m2.len⟩,
   hF.row h.yr (by decide) (by decide) (h.yr.apart h.m1.row (by decide)), QAt.fr h.q h.m1 hF h.ne.2.1, hF.grown h.gr hB, h.ne⟩
theorem Kv.fr2 (h : Kv w b s t pm gm pm2 gm2 ys p' g' tl yl l bs bs1 bs2 wr) {B : Nat} (hF : Fr B gm2 wr ws) (hB : w.heap.size ≤ B) (hm : RAt ws pm2 gm2 bs3) : Kv w b s t pm gm pm2 gm2 ys p' g' tl yl l bs bs1 bs3 ws :=
  ⟨hF.row h.opr (by decide) (by decide) (h.opr.apart h.m2.row (by decide)), hF.row h.spa (by decide) (by decide) (h.spa.apart h.m2.row (by decide)), hF.row h.spb (by decide) (by decide) (h.spb.apart h.m2.row (by decide)),
   ⟨hF.row h.m1.ptr (by decide) (by decide) (h.m1.ptr.apart h.m2.row (by decide)), hF.row h.m1.row (by decide) (by decide) h.ne.1, h.m1.byt, h.m1.len⟩, hm,
   hF.row h.yr (by decide) (by decide) (h.yr.apart h.m2.row (by decide)), QAt.fr h.q h.m2 hF h.ne.2.2, hF.grown h.gr hB, h.ne⟩
end

set_option maxRecDepth 100000 in
set_option maxHeartbeats 8000000 in
theorem walk (w : World) (a0_0 : Int) (w0_0 : (Lit.int .u8 a0_0).wf = true) (A0_1 : Option Addr) (n0_1 k0_1 : Nat) (mc0_1 : n0_1 ≤ k0_1) (cc0_1 : k0_1 ≤ 9223372036854775807) (el0_1 : ∀ i, i < n0_1 → ∃ ad, A0_1 = some ad ∧ ad.block < w.heap.size ∧ ∃ (x0 : Int) (x1 : Int), (w.cell? (ad.add (i * 2 + 0)) = some (.int .u32 x0) ∧ (Lit.int .u32 x0).wf = true) ∧ (w.cell? (ad.add (i * 2 + 1)) = some (.int .u64 x1) ∧ (Lit.int .u64 x1).wf = true)) (a1_0 : Int) (w1_0 : (Lit.int .u8 a1_0).wf = true) (a1_1 : Int) (w1_1 : (Lit.int .u64 a1_1).wf = true) (a1_2 : Int) (w1_2 : (Lit.int .u64 a1_2).wf = true) (a1_3 : Int) (w1_3 : (Lit.int .u64 a1_3).wf = true) (a1_4 : Int) (w1_4 : (Lit.int .u64 a1_4).wf = true) (a1_5 : Int) (w1_5 : (Lit.int .u64 a1_5).wf = true) (a1_6 : Int) (w1_6 : (Lit.int .u64 a1_6).wf = true) (a1_7 : Int) (w1_7 : (Lit.int .u64 a1_7).wf = true) (a1_8 : Int) (w1_8 : (Lit.int .u64 a1_8).wf = true) (a1_9 : Int) (w1_9 : (Lit.int .u64 a1_9).wf = true) (a1_10 : Int) (w1_10 : (Lit.int .u64 a1_10).wf = true) (a1_11 : Int) (w1_11 : (Lit.int .u64 a1_11).wf = true) (a1_12 : Int) (w1_12 : (Lit.int .u64 a1_12).wf = true) (a1_13 : Int) (w1_13 : (Lit.int .i64 a1_13).wf = true) (a1_14 : Int) (w1_14 : (Lit.int .i64 a1_14).wf = true) (a1_15 : Int) (w1_15 : (Lit.int .u64 a1_15).wf = true) (a1_16 : Int) (w1_16 : (Lit.int .u64 a1_16).wf = true) (a1_17 : Int) (w1_17 : (Lit.int .u8 a1_17).wf = true) :
    Calls Try.prog 10 #[.agg #[.int .u8 a0_0, .slice A0_1 n0_1 k0_1], .agg #[.int .u8 a1_0, .int .u64 a1_1, .int .u64 a1_2, .int .u64 a1_3, .int .u64 a1_4, .int .u64 a1_5, .int .u64 a1_6, .int .u64 a1_7, .int .u64 a1_8, .int .u64 a1_9, .int .u64 a1_10, .int .u64 a1_11, .int .u64 a1_12, .int .i64 a1_13, .int .i64 a1_14, .int .u64 a1_15, .int .u64 a1_16, .int .u8 a1_17]] w fun e w' => e = .returned (.bool true) ∧ Below w.heap.size w w' := by
  have ha : 0 ≤ a0_0 ∧ a0_0 ≤ 255 := bounds_u8 w0_0
  have hc : C.Good [a1_1, a1_2, a1_3, a1_4, a1_5, a1_6, a1_7, a1_8, a1_9, a1_10, a1_11, a1_12] := good12 (bounds_u64 w1_1) (bounds_u64 w1_2) (bounds_u64 w1_3) (bounds_u64 w1_4) (bounds_u64 w1_5) (bounds_u64 w1_6) (bounds_u64 w1_7) (bounds_u64 w1_8) (bounds_u64 w1_9) (bounds_u64 w1_10) (bounds_u64 w1_11) (bounds_u64 w1_12)
  have hp : I64 a1_13 := bounds_i64 w1_13
  have hh : I64 a1_14 := bounds_i64 w1_14
  have hv : B64 a1_15 := bounds_u64 w1_15
  have hx : B64 a1_16 := bounds_u64 w1_16
  have hn : 0 ≤ a1_17 ∧ a1_17 ≤ 255 := bounds_u8 w1_17
  have hkd : 0 ≤ a1_0 ∧ a1_0 ≤ 255 := bounds_u8 w1_0
  obtain ⟨f, h, hE⟩ := elems_of el0_1
  obtain ⟨bs, hbs⟩ : ∃ bs, bs = fillV f h (min n0_1 64) (List.replicate ((1 + a0_0 % 16).toNat * 4096) 0) := ⟨_, rfl⟩
  have BT := Lib.hid (fun W hW => bothN_c (-1) (by unfold I64; omega) (by omega) a0_0 ha A0_1 n0_1 k0_1 mc0_1 cc0_1 f h W hW)
  have BT8 := Lib.hid (fun W hW => bothT_c 8 (by unfold I64; omega) (by omega) a0_0 ha A0_1 n0_1 k0_1 mc0_1 cc0_1 f h W hW)
  rw [← hbs] at BT BT8
  have HE := Lib.hid hE
  clear hbs el0_1 hE w1_0 w1_1 w1_2 w1_3 w1_4 w1_5 w1_6 w1_7 w1_8 w1_9 w1_10 w1_11 w1_12 w1_13 w1_14 w1_15 w1_16 w1_17 w0_0
  obtain ⟨m, hm⟩ : ∃ m, m = sizeN a1_17 := ⟨_, rfl⟩
  have hm4 := sizeN_is a1_17
  rw [← hm] at hm4
  have SZ := Lib.hid (fun W => size_c a1_17 hn W)
  rw [← hm] at SZ
  clear hm
  have hm8 : 1 ≤ m ∧ m ≤ 8 := by omega
  have hand := M.and_3 a1_0 hkd
  obtain ⟨⟨el1, el2, el3⟩, el4⟩ := S.reals_sound (bs := bs) (sa := (gC [a1_1, a1_2, a1_3, a1_4, a1_5, a1_6, a1_7, a1_8, a1_9, a1_10, a1_11, a1_12] 9)) (st := (gC [a1_1, a1_2, a1_3, a1_4, a1_5, a1_6, a1_7, a1_8, a1_9, a1_10, a1_11, a1_12] 0)) (priv := a1_13) (kind := 1) (va := a1_15) 8 m 0 0
  obtain ⟨⟨es1, es2, es3⟩, es4⟩ := S.reals_sound (bs := bs) (sa := (gC [a1_1, a1_2, a1_3, a1_4, a1_5, a1_6, a1_7, a1_8, a1_9, a1_10, a1_11, a1_12] 9)) (st := (gC [a1_1, a1_2, a1_3, a1_4, a1_5, a1_6, a1_7, a1_8, a1_9, a1_10, a1_11, a1_12] 0)) (priv := a1_13) (kind := 2) (va := a1_15) 8 m 0 0
  obtain ⟨⟨ef1, ef2, ef3⟩, ef4⟩ := S.fetch_sound (bs := bs) (sa := (gC [a1_1, a1_2, a1_3, a1_4, a1_5, a1_6, a1_7, a1_8, a1_9, a1_10, a1_11, a1_12] 9)) (st := (gC [a1_1, a1_2, a1_3, a1_4, a1_5, a1_6, a1_7, a1_8, a1_9, a1_10, a1_11, a1_12] 0)) (priv := a1_13) (va := a1_15) 8 0 0
  obtain ⟨rl, hrl⟩ : ∃ r, S.realsV bs 0 (gC [a1_1, a1_2, a1_3, a1_4, a1_5, a1_6, a1_7, a1_8, a1_9, a1_10, a1_11, a1_12] 9) (gC [a1_1, a1_2, a1_3, a1_4, a1_5, a1_6, a1_7, a1_8, a1_9, a1_10, a1_11, a1_12] 0) a1_13 1 a1_15 m [] 0 = r := ⟨_, rfl⟩
  obtain ⟨rs, hrs⟩ : ∃ r, S.realsV bs 0 (gC [a1_1, a1_2, a1_3, a1_4, a1_5, a1_6, a1_7, a1_8, a1_9, a1_10, a1_11, a1_12] 9) (gC [a1_1, a1_2, a1_3, a1_4, a1_5, a1_6, a1_7, a1_8, a1_9, a1_10, a1_11, a1_12] 0) a1_13 2 a1_15 m [] 0 = r := ⟨_, rfl⟩
  obtain ⟨rf, hrf⟩ : ∃ r, S.fetchV bs 0 (gC [a1_1, a1_2, a1_3, a1_4, a1_5, a1_6, a1_7, a1_8, a1_9, a1_10, a1_11, a1_12] 9) (gC [a1_1, a1_2, a1_3, a1_4, a1_5, a1_6, a1_7, a1_8, a1_9, a1_10, a1_11, a1_12] 0) a1_13 a1_15 [] 0 = r := ⟨_, rfl⟩
  obtain ⟨xl, hxl⟩ : ∃ x, S.loadX bs rl.all = x := ⟨_, rfl⟩
  have L2 := Lib.hid (fun pm gm B W hW => Load_n hc hp hv hm4 hrl hxl pm gm B W hW)
  have S2 := Lib.hid (fun pm gm B W hW => Store_n hc hp hv hx hm4 hrs pm gm B W hW)
  have F2 := Lib.hid (fun pm gm B W hW => Fetch_n hc hp hv hrf pm gm B W hW)
  have L1 := Lib.hid (fun pm gm B tl W hW => SLoad_c pm gm bs [a1_1, a1_2, a1_3, a1_4, a1_5, a1_6, a1_7, a1_8, a1_9, a1_10, a1_11, a1_12] hc a1_13 a1_15 m hp hv hm4 B (some tl) 8 0 [] W hW _ rfl)
  have S1 := Lib.hid (fun pm gm B tl W hW => SStore_c pm gm bs [a1_1, a1_2, a1_3, a1_4, a1_5, a1_6, a1_7, a1_8, a1_9, a1_10, a1_11, a1_12] hc a1_13 a1_15 m a1_16 hp hv hm4 hx B (some tl) 8 0 [] W hW _ rfl)
  have F1 := Lib.hid (fun pm gm B tl W hW => SFetch_c pm gm bs [a1_1, a1_2, a1_3, a1_4, a1_5, a1_6, a1_7, a1_8, a1_9, a1_10, a1_11, a1_12] hc a1_13 a1_15 hp hv B (some tl) 8 0 [] W hW _ rfl)
  rw [hrl] at el1 el2 el3 el4
  rw [hrs] at es1 es2 es3 es4
  rw [hrf] at ef1 ef2 ef3 ef4
  unfold vF vFault vS vT at L1 S1 F1
  simp only [el1, el2, el3, el4, hxl, Option.map_some] at L1
  simp only [es1, es2, es3, es4, Option.map_some] at S1
  simp only [ef1, ef2, ef3, ef4, Option.map_some] at F1
  clear hrl hrs hrf hxl hc el1 el2 el3 el4 es1 es2 es3 es4 ef1 ef2 ef3 ef4
  rw [show vC [a1_1, a1_2, a1_3, a1_4, a1_5, a1_6, a1_7, a1_8, a1_9, a1_10, a1_11, a1_12] = .agg #[.int .u64 a1_1, .int .u64 a1_2, .int .u64 a1_3, .int .u64 a1_4, .int .u64 a1_5, .int .u64 a1_6, .int .u64 a1_7, .int .u64 a1_8, .int .u64 a1_9, .int .u64 a1_10, .int .u64 a1_11, .int .u64 a1_12] from rfl] at *
  have HR0 := Lib.hid ((Row.fresh w 70 [.int .u8 a0_0, .slice A0_1 n0_1 k0_1]).alloc (.cells #[.int .u8 a1_0, .int .u64 a1_1, .int .u64 a1_2, .int .u64 a1_3, .int .u64 a1_4, .int .u64 a1_5, .int .u64 a1_6, .int .u64 a1_7, .int .u64 a1_8, .int .u64 a1_9, .int .u64 a1_10, .int .u64 a1_11, .int .u64 a1_12, .int .i64 a1_13, .int .i64 a1_14, .int .u64 a1_15, .int .u64 a1_16, .int .u8 a1_17] 78))
  have HT0 := Lib.hid (Row.fresh (w.alloc (.cells #[.int .u8 a0_0, .slice A0_1 n0_1 k0_1] 70)) 78 [.int .u8 a1_0, .int .u64 a1_1, .int .u64 a1_2, .int .u64 a1_3, .int .u64 a1_4, .int .u64 a1_5, .int .u64 a1_6, .int .u64 a1_7, .int .u64 a1_8, .int .u64 a1_9, .int .u64 a1_10, .int .u64 a1_11, .int .u64 a1_12, .int .i64 a1_13, .int .i64 a1_14, .int .u64 a1_15, .int .u64 a1_16, .int .u8 a1_17])
  rw [show (w.alloc (.cells #[.int .u8 a0_0, .slice A0_1 n0_1 k0_1] 70)).heap.size = w.heap.size + 1 from Array.size_push ..] at HT0
  have HG0 := Lib.hid (gr_alloc (gr_alloc (gr_refl w none) (.cells #[.int .u8 a0_0, .slice A0_1 n0_1 k0_1] 70)) (.cells #[.int .u8 a1_0, .int .u64 a1_1, .int .u64 a1_2, .int .u64 a1_3, .int .u64 a1_4, .int .u64 a1_5, .int .u64 a1_6, .int .u64 a1_7, .int .u64 a1_8, .int .u64 a1_9, .int .u64 a1_10, .int .u64 a1_11, .int .u64 a1_12, .int .i64 a1_13, .int .i64 a1_14, .int .u64 a1_15, .int .u64 a1_16, .int .u8 a1_17] 78))
  unfold B64 at hv hx
  unfold I64 at hp hh
  go_enter Try.func10, Try.ntmps10
  go_wp2_with fail
  generalize (w.alloc (.cells #[.int .u8 a0_0, .slice A0_1 n0_1 k0_1] 70)).alloc (.cells #[.int .u8 a1_0, .int .u64 a1_1, .int .u64 a1_2, .int .u64 a1_3, .int .u64 a1_4, .int .u64 a1_5, .int .u64 a1_6, .int .u64 a1_7, .int .u64 a1_8, .int .u64 a1_9, .int .u64 a1_10, .int .u64 a1_11, .int .u64 a1_12, .int .i64 a1_13, .int .i64 a1_14, .int .u64 a1_15, .int .u64 a1_16, .int .u8 a1_17] 78) = V at *
  refine (shown13_c _).mono ?_
  rintro e w1 ⟨rfl, hG⟩
  have hR1 := HR0.out.grown hG (by simp)
  have hT1 := HT0.out.grown hG (by simp)
  have hG1 := gr_trans HG0.out hG
  have hE1 := (HE.out.turn (w' := w1) (fun ad had => cell_grown hG1 had (by simp))).more hG1.size
  clear HR0 HT0 HG0 HE hG
  obtain ⟨b, hb⟩ : ∃ b, b = w.heap.size := ⟨_, rfl⟩
  rw [← hb] at hR1 hT1 ⊢
  have HB := Lib.hid hb
  clear hb
  have m0 : w1.cell? ⟨b, 0, none⟩ = some (.int .u8 a0_0) := hR1.cell 0
  have m1 : w1.cell? ⟨b, 1, none⟩ = some (.slice A0_1 n0_1 k0_1) := hR1.cell 1
  have lt := hR1.lt
  go_wp2_with fail
  refine (BT8.out _ hE1).mono ?_
  rintro e w2 ⟨pm, gm, p', g', ys, tr, tl, rfl, hS, hQ, hgg, hY, hG, hgp⟩
  rw [show T.mostV 8 = 8 from rfl] at hS
  unfold vS vT
  simp only [Option.map_some]
  have hg := gr_trans hG (gr_alloc (gr_refl w2 none) (.cells #[.pointer (some ⟨pm, 0, none⟩), .pointer (some ⟨tl, 0, none⟩)] 73))
  have hg' := gr_alloc (gr_refl w2 none) (.cells #[.pointer (some ⟨pm, 0, none⟩), .pointer (some ⟨tl, 0, none⟩)] 73)
  have hN := new2 w2 73 (.pointer (some ⟨pm, 0, none⟩)) (.pointer (some ⟨tl, 0, none⟩))
  replace hR1 := hR1.grown hg (by simp)
  replace hT1 := hT1.grown hg (by simp)
  have hG2 := gr_trans hG1 hg
  have hB1 : w.heap.size ≤ w1.heap.size := hG1.size
  replace hE1 := (hE1.turn (w' := w2.alloc (.cells #[.pointer (some ⟨pm, 0, none⟩), .pointer (some ⟨tl, 0, none⟩)] 73)) (fun ad had => cell_grown hg had (by simp))).more hg.size
  replace hS := hS.keep hg'
  replace hQ := hQ.kept hg'
  replace hY := hY.grown hg' (by simp)
  clear hG hg hg' hgp hG1 m0 m1 lt BT8
  go_upto_region 3 with (fail)
  generalize w2.alloc (.cells #[.pointer (some ⟨pm, 0, none⟩), .pointer (some ⟨tl, 0, none⟩)] 73) = W at *
  generalize w2.heap.size = s at *
  have m0 : W.cell? ⟨b, 0, none⟩ = some (.int .u8 a0_0) := hR1.cell 0
  have m1 : W.cell? ⟨b, 1, none⟩ = some (.slice A0_1 n0_1 k0_1) := hR1.cell 1
  have lt := hR1.lt
  go_wp2_with fail
  refine (BT.out _ hE1).mono ?_
  rintro e w3 ⟨pm2, gm2, p2, g2, ys2, tr2, rfl, hA2, hgm2, -, -, -, -, hG, -⟩
  unfold vS vT
  simp only [Option.map_none]
  have hg := gr_trans hG (gr_alloc (gr_refl w3 none) (.cells #[.pointer (some ⟨pm2, 0, none⟩), .pointer none] 73))
  have hg' := gr_alloc (gr_refl w3 none) (.cells #[.pointer (some ⟨pm2, 0, none⟩), .pointer none] 73)
  have hN2 := new2 w3 73 (.pointer (some ⟨pm2, 0, none⟩)) (.pointer none)
  have hgs : gm < W.heap.size := hS.mem.row.lt
  have hgl : g' < W.heap.size := hQ.row.lt
  have hK : Kv w b s w3.heap.size pm gm pm2 gm2 ys p' g' tl [.pointer (some ⟨tr, 0, none⟩), .bool true] [.int .u8 a1_0, .int .u64 a1_1, .int .u64 a1_2, .int .u64 a1_3, .int .u64 a1_4, .int .u64 a1_5, .int .u64 a1_6, .int .u64 a1_7, .int .u64 a1_8, .int .u64 a1_9, .int .u64 a1_10, .int .u64 a1_11, .int .u64 a1_12, .int .i64 a1_13, .int .i64 a1_14, .int .u64 a1_15, .int .u64 a1_16, .int .u8 a1_17] bs bs bs (w3.alloc (.cells #[.pointer (some ⟨pm2, 0, none⟩), .pointer none] 73)) :=
    ⟨hT1.grown hg (by simp), hN.grown hg (by simp), hN2, hS.mem.kept hg, hA2.kept hg', hY.grown hg (by simp), hQ.kept hg, gr_trans hG2 hg, by omega, hgg, by omega⟩
  have hS1 := hS.keep hg
  have hB2 : w.heap.size ≤ W.heap.size := hG2.size
  have hS2 : Spc (w3.alloc (.cells #[.pointer (some ⟨pm2, 0, none⟩), .pointer none] 73)) W.heap.size pm2 gm2 bs none 0 0 [] := ⟨hA2.kept hg', hgm2, rfl, rfl⟩
  clear hR1 hT1 hG2 hE1 hS hQ hY hN hN2 hA2 hgm2 hgs hgl hG hg hg' m0 m1 lt BT hgg
  go_upto_region 4 with (fail)
  generalize w3.alloc (.cells #[.pointer (some ⟨pm2, 0, none⟩), .pointer none] 73) = X at *
  generalize w3.heap.size = t at *
  generalize w1.heap.size = B1 at *
  generalize W.heap.size = B2 at *
  have k17 : X.cell? ⟨b + 1, 17, none⟩ = some (.int .u8 a1_17) := hK.opr.cell 17
  have lt := hK.opr.lt
  have HK := Lib.hid (And.intro hK (And.intro hS1 hS2))
  clear hK hS1 hS2
  go_wp2_with fail
  refine (SZ.out _).mono ?_
  rintro e w4 ⟨rfl, rfl⟩
  clear k17 lt SZ
  go_upto_region 9 with (fail)
  obtain ⟨hK, hS1, hS2⟩ := HK.out
  clear HK
  have hg := gr_alloc (gr_refl X none) (.cells #[.bool false, .int .i64 0, .int .u64 0] 49)
  have r15 := newF X (.bool false) (.int .i64 0) (.int .u64 0)
  have hf15 : w.heap.size ≤ X.heap.size := hK.gr.size
  replace hK := hK.keep hg
  replace hS1 := hS1.keep hg
  replace hS2 := hS2.keep hg
  clear hg
  go_upto_region 10 with (fail)
  generalize X.alloc (.cells #[.bool false, .int .i64 0, .int .u64 0] 49) = Y at *
  generalize X.heap.size = f15 at *
  have hg := gr_alloc (gr_refl Y none) (.cells #[.bool false, .int .i64 0, .int .u64 0] 49)
  have r16 := newF Y (.bool false) (.int .i64 0) (.int .u64 0)
  have hf16 : w.heap.size ≤ Y.heap.size := hK.gr.size
  have hff : f15 < Y.heap.size := r15.lt
  replace hK := hK.keep hg
  replace hS1 := hS1.keep hg
  replace hS2 := hS2.keep hg
  replace r15 := r15.grown hg (by simp)
  clear hg
  go_upto_region 11 with (fail)
  generalize Y.alloc (.cells #[.bool false, .int .i64 0, .int .u64 0] 49) = Z at *
  generalize Y.heap.size = f16 at *
  have hkk : a1_0 % 4 = 0 ∨ a1_0 % 4 = 1 ∨ a1_0 % 4 = 2 ∨ a1_0 % 4 = 3 := by omega
  rcases hkk with hk | hk | hk | hk
  · have hand : bits .and .u8 a1_0 3 = 0 := by rw [hand]; exact hk
    have k0 : Z.cell? ⟨b + 1, 0, none⟩ = some (.int .u8 a1_0) := hK.opr.cell 0
    have lt := hK.opr.lt
    go_upto_region 14 with (fail)
    clear k0 lt hk
    have k0 : Z.cell? ⟨b + 1, 0, none⟩ = some (.int .u8 a1_0) := hK.opr.cell 0
    have k1 : Z.cell? ⟨b + 1, 1, none⟩ = some (.int .u64 a1_1) := hK.opr.cell 1
    have k2 : Z.cell? ⟨b + 1, 2, none⟩ = some (.int .u64 a1_2) := hK.opr.cell 2
    have k3 : Z.cell? ⟨b + 1, 3, none⟩ = some (.int .u64 a1_3) := hK.opr.cell 3
    have k4 : Z.cell? ⟨b + 1, 4, none⟩ = some (.int .u64 a1_4) := hK.opr.cell 4
    have k5 : Z.cell? ⟨b + 1, 5, none⟩ = some (.int .u64 a1_5) := hK.opr.cell 5
    have k6 : Z.cell? ⟨b + 1, 6, none⟩ = some (.int .u64 a1_6) := hK.opr.cell 6
    have k7 : Z.cell? ⟨b + 1, 7, none⟩ = some (.int .u64 a1_7) := hK.opr.cell 7
    have k8 : Z.cell? ⟨b + 1, 8, none⟩ = some (.int .u64 a1_8) := hK.opr.cell 8
    have k9 : Z.cell? ⟨b + 1, 9, none⟩ = some (.int .u64 a1_9) := hK.opr.cell 9
    have k10 : Z.cell? ⟨b + 1, 10, none⟩ = some (.int .u64 a1_10) := hK.opr.cell 10
    have k11 : Z.cell? ⟨b + 1, 11, none⟩ = some (.int .u64 a1_11) := hK.opr.cell 11
    have k12 : Z.cell? ⟨b + 1, 12, none⟩ = some (.int .u64 a1_12) := hK.opr.cell 12
    have k13 : Z.cell? ⟨b + 1, 13, none⟩ = some (.int .i64 a1_13) := hK.opr.cell 13
    have k14 : Z.cell? ⟨b + 1, 14, none⟩ = some (.int .i64 a1_14) := hK.opr.cell 14
    have k15 : Z.cell? ⟨b + 1, 15, none⟩ = some (.int .u64 a1_15) := hK.opr.cell 15
    have k16 : Z.cell? ⟨b + 1, 16, none⟩ = some (.int .u64 a1_16) := hK.opr.cell 16
    have k17 : Z.cell? ⟨b + 1, 17, none⟩ = some (.int .u8 a1_17) := hK.opr.cell 17
    have s0 : Z.cell? ⟨s, 0, none⟩ = some (.pointer (some ⟨pm, 0, none⟩)) := hK.spa.cell 0
    have s1 : Z.cell? ⟨s, 1, none⟩ = some (.pointer (some ⟨tl, 0, none⟩)) := hK.spa.cell 1
    have lt := hK.opr.lt
    have ls := hK.spa.lt
    have fz := fault_free r15
    obtain ⟨⟨z0, z1, z2⟩, zf, zl⟩ := fz
    have HK := Lib.hid (And.intro hK (And.intro hS1 (And.intro r15 (And.intro r16 hS2))))
    clear hK hS1 hS2 r15 r16 z0 z1 z2 zf zl
    go_wp2_with fail
    refine (L1.out _ _ _ _ _ HK.out.2.1).mono ?_
    rintro e u1 ⟨rfl, hS, hF⟩
    obtain ⟨hK, -, r15, r16, hS2⟩ := HK.out
    have hfr15 := hF.row r15 (by decide) (by decide) (r15.apart hK.m1.row (by decide))
    have hfr16 := hF.row r16 (by decide) (by decide) (r16.apart hK.m1.row (by decide))
    replace hS2 : Spc u1 B2 pm2 gm2 bs none 0 0 [] := ⟨(hK.fr1 hF hB1 hS.mem).m2, hS2.own, rfl, rfl⟩
    replace hK := hK.fr1 hF hB1 hS.mem
    clear r15 r16 HK hF hS k0 k1 k2 k3 k4 k5 k6 k7 k8 k9 k10 k11 k12 k13 k14 k15 k16 k17 s0 s1 lt ls
    obtain ⟨⟨z0, z1, z2⟩, zf, zl⟩ := fault_free hfr15
    have hgs := gr_set3 u1 f15 (.bool rl.f.isf) (.int .i64 rl.f.cause) (.int .u64 rl.f.val)
    have HK := Lib.hid (And.intro (hK.set hfr15 hgs hf15) (And.intro (hS2.set hfr15 (by decide) (by decide) (by decide) (by decide) hgs) (And.intro (put3 hfr15 (.bool rl.f.isf) (.int .i64 rl.f.cause) (.int .u64 rl.f.val)) (hfr16.grown hgs (some_ne (by omega))))))
    clear hK hS2 hfr15 hfr16 hgs
    go_upto_region 15 with (fail)
    obtain ⟨hK, hS2, r15, r16⟩ := HK.out
    clear HK z0 z1 z2 zf zl
    generalize (((u1.setCell ⟨f15, 0, none⟩ (.bool rl.f.isf)).setCell ⟨f15, 1, none⟩ (.int .i64 rl.f.cause)).setCell ⟨f15, 2, none⟩ (.int .u64 rl.f.val)) = u1' at *
    have k0 : u1'.cell? ⟨b + 1, 0, none⟩ = some (.int .u8 a1_0) := hK.opr.cell 0
    have k1 : u1'.cell? ⟨b + 1, 1, none⟩ = some (.int .u64 a1_1) := hK.opr.cell 1
    have k2 : u1'.cell? ⟨b + 1, 2, none⟩ = some (.int .u64 a1_2) := hK.opr.cell 2
    have k3 : u1'.cell? ⟨b + 1, 3, none⟩ = some (.int .u64 a1_3) := hK.opr.cell 3
    have k4 : u1'.cell? ⟨b + 1, 4, none⟩ = some (.int .u64 a1_4) := hK.opr.cell 4
    have k5 : u1'.cell? ⟨b + 1, 5, none⟩ = some (.int .u64 a1_5) := hK.opr.cell 5
    have k6 : u1'.cell? ⟨b + 1, 6, none⟩ = some (.int .u64 a1_6) := hK.opr.cell 6
    have k7 : u1'.cell? ⟨b + 1, 7, none⟩ = some (.int .u64 a1_7) := hK.opr.cell 7
    have k8 : u1'.cell? ⟨b + 1, 8, none⟩ = some (.int .u64 a1_8) := hK.opr.cell 8
    have k9 : u1'.cell? ⟨b + 1, 9, none⟩ = some (.int .u64 a1_9) := hK.opr.cell 9
    have k10 : u1'.cell? ⟨b + 1, 10, none⟩ = some (.int .u64 a1_10) := hK.opr.cell 10
    have k11 : u1'.cell? ⟨b + 1, 11, none⟩ = some (.int .u64 a1_11) := hK.opr.cell 11
    have k12 : u1'.cell? ⟨b + 1, 12, none⟩ = some (.int .u64 a1_12) := hK.opr.cell 12
    have k13 : u1'.cell? ⟨b + 1, 13, none⟩ = some (.int .i64 a1_13) := hK.opr.cell 13
    have k14 : u1'.cell? ⟨b + 1, 14, none⟩ = some (.int .i64 a1_14) := hK.opr.cell 14
    have k15 : u1'.cell? ⟨b + 1, 15, none⟩ = some (.int .u64 a1_15) := hK.opr.cell 15
    have k16 : u1'.cell? ⟨b + 1, 16, none⟩ = some (.int .u64 a1_16) := hK.opr.cell 16
    have k17 : u1'.cell? ⟨b + 1, 17, none⟩ = some (.int .u8 a1_17) := hK.opr.cell 17
    have s0 : u1'.cell? ⟨t, 0, none⟩ = some (.pointer (some ⟨pm2, 0, none⟩)) := hK.spb.cell 0
    have s1 : u1'.cell? ⟨t, 1, none⟩ = some (.pointer none) := hK.spb.cell 1
    have lt := hK.opr.lt
    have ls := hK.spb.lt
    have fz := fault_free r16
    obtain ⟨⟨z0, z1, z2⟩, zf, zl⟩ := fz
    have HK := Lib.hid (And.intro hK (And.intro hS2 (And.intro r15 (And.intro r16 hS2))))
    clear hK hS2 r15 r16 z0 z1 z2 zf zl
    go_wp2_with fail
    refine (L2.out _ _ _ _ HK.out.2.1).mono ?_
    rintro e u2 ⟨rfl, hS, hF⟩
    obtain ⟨hK, -, r15, r16, hS2⟩ := HK.out
    have hfr15 := hF.row r15 (by decide) (by decide) (r15.apart hK.m2.row (by decide))
    have hfr16 := hF.row r16 (by decide) (by decide) (r16.apart hK.m2.row (by decide))
    replace hK := hK.fr2 hF hB2 hS.mem
    clear r15 r16 HK hF hS k0 k1 k2 k3 k4 k5 k6 k7 k8 k9 k10 k11 k12 k13 k14 k15 k16 k17 s0 s1 lt ls
    obtain ⟨⟨z0, z1, z2⟩, zf, zl⟩ := fault_free hfr16
    have hgs := gr_set3 u2 f16 (.bool rl.f.isf) (.int .i64 rl.f.cause) (.int .u64 rl.f.val)
    have HK := Lib.hid (And.intro (hK.set hfr16 hgs hf16) (And.intro (trivial) (And.intro (put3 hfr16 (.bool rl.f.isf) (.int .i64 rl.f.cause) (.int .u64 rl.f.val)) (hfr15.grown hgs (some_ne (by omega))))))
    clear hK hS2 hfr15 hfr16 hgs
    go_upto_region 26 with (fail)
    obtain ⟨hK, -, r16, r15⟩ := HK.out
    clear HK z0 z1 z2 zf zl
    generalize (((u2.setCell ⟨f16, 0, none⟩ (.bool rl.f.isf)).setCell ⟨f16, 1, none⟩ (.int .i64 rl.f.cause)).setCell ⟨f16, 2, none⟩ (.int .u64 rl.f.val)) = u2' at *
    generalize hV0 : u2' = V0 at *
    clear hV0
    obtain ⟨N, hN⟩ : ∃ N, N = bs.length := ⟨_, rfl⟩
    have HN := Lib.hid hN
    clear hN
    have AL := Lib.hid (all_c (w := V0.drew) hK.m1.drew (show N = List.length _ by first | exact HN.out | exact HN.out.trans (S.storeX_length rs.all bs a1_16).symm))
    have KS : ∀ w', V0.grownBy w' none → (w'.cell? ⟨ys, 0, none⟩ = some (.pointer (some ⟨p', 0, none⟩)) ∧ w'.cell? ⟨p', 0, none⟩ = some (.slice (some ⟨g', 0, none⟩) N N) ∧ w'.cell? ⟨s, 0, none⟩ = some (.pointer (some ⟨pm, 0, none⟩)) ∧ V0.grownBy w' none) := fun w' h =>
      ⟨(hK.yr.grown h (by simp)).cell 0, by have := (hK.q.kept h).head; rwa [← HN.out] at this, (hK.spa.grown h (by simp)).cell 0, h⟩
    have HKS := Lib.hid KS
    have yl := hK.yr.lt
    have yl2 := hK.q.ptr.lt
    have ls := hK.spa.lt
    have HK := Lib.hid (And.intro hK (And.intro r15 r16))
    clear hK r15 r16 KS
    go_wp2_with fail
    go_region_held3 (fun w' => w'.cell? ⟨ys, 0, none⟩ = some (.pointer (some ⟨p', 0, none⟩)) ∧ w'.cell? ⟨p', 0, none⟩ = some (.slice (some ⟨g', 0, none⟩) N N) ∧ w'.cell? ⟨s, 0, none⟩ = some (.pointer (some ⟨pm, 0, none⟩)) ∧ V0.grownBy w' none)
      (first | (with_reducible assumption) | exact HKS.out _ (gr_drew (gr_refl _ none)) | exact HKS.out _ (gr_trans (gr_drew (gr_refl _ none)) (by assumption)))
      (first | (go_at_call 45; refine AL.out.mono ?_; rintro e w7 ⟨rfl, hRw7, hG7⟩))
    rename_i w7 hRw7 hG7 hHeld
    have hG : V0.grownBy w7 none := gr_trans (gr_drew (gr_refl V0 none)) hG7
    obtain ⟨hK, r15, r16⟩ := HK.out
    replace hK := hK.keep hG
    replace r15 := r15.grown hG (by simp)
    replace r16 := r16.grown hG (by simp)
    clear HK AL HKS hHeld yl yl2 ls hG7 hG
    have hae : V0.drew.heap.size = V0.heap.size := rfl
    rw [hae] at hRw7
    clear hae
    generalize V0.heap.size = a0 at *
    go_upto_region 27 with (fail)
    generalize hV1 : w7 = V1 at *
    clear hV1
    have AL := Lib.hid (all_c (w := V1.drew) hK.m2.drew (show N = List.length _ by first | exact HN.out | exact HN.out.trans (S.storeX_length rs.all bs a1_16).symm))
    have KS : ∀ w', V1.grownBy w' none → (w'.cell? ⟨ys, 0, none⟩ = some (.pointer (some ⟨p', 0, none⟩)) ∧ w'.cell? ⟨p', 0, none⟩ = some (.slice (some ⟨g', 0, none⟩) N N) ∧ w'.cell? ⟨t, 0, none⟩ = some (.pointer (some ⟨pm2, 0, none⟩)) ∧ V1.grownBy w' none) := fun w' h =>
      ⟨(hK.yr.grown h (by simp)).cell 0, by have := (hK.q.kept h).head; rwa [← HN.out] at this, (hK.spb.grown h (by simp)).cell 0, h⟩
    have HKS := Lib.hid KS
    have yl := hK.yr.lt
    have yl2 := hK.q.ptr.lt
    have ls := hK.spb.lt
    have HK := Lib.hid (And.intro hK (And.intro r15 r16))
    clear hK r15 r16 KS
    go_wp2_with fail
    go_region_held3 (fun w' => w'.cell? ⟨ys, 0, none⟩ = some (.pointer (some ⟨p', 0, none⟩)) ∧ w'.cell? ⟨p', 0, none⟩ = some (.slice (some ⟨g', 0, none⟩) N N) ∧ w'.cell? ⟨t, 0, none⟩ = some (.pointer (some ⟨pm2, 0, none⟩)) ∧ V1.grownBy w' none)
      (first | (with_reducible assumption) | exact HKS.out _ (gr_drew (gr_refl _ none)) | exact HKS.out _ (gr_trans (gr_drew (gr_refl _ none)) (by assumption)))
      (first | (go_at_call 45; refine AL.out.mono ?_; rintro e w8 ⟨rfl, hRw8, hG7⟩))
    rename_i w8 hRw8 hG7 hHeld
    have hG : V1.grownBy w8 none := gr_trans (gr_drew (gr_refl V1 none)) hG7
    obtain ⟨hK, r15, r16⟩ := HK.out
    replace hK := hK.keep hG
    replace r15 := r15.grown hG (by simp)
    replace r16 := r16.grown hG (by simp)
    replace hRw7 := hRw7.grown hG (by simp)
    clear HK AL HKS hHeld yl yl2 ls hG7 hG
    have hae : V1.drew.heap.size = V1.heap.size := rfl
    rw [hae] at hRw8
    clear hae
    generalize V1.heap.size = a1 at *
    go_upto_region 28 with (fail)
    obtain ⟨⟨i0, i1, i2⟩, -, li⟩ := fault_free r15
    obtain ⟨⟨j0, j1, j2⟩, -, lj⟩ := fault_free r16
    have t1 : (convert 87 9 (.slice (some ⟨a0, 0, none⟩) N N)).run Try.prog w8 = .ok (.string (strOfNums _)) w8 := row_text hRw7 hK.m1.byt (by first | exact HN.out | exact HN.out.trans (S.storeX_length rs.all bs a1_16).symm) 0
    have t2 : (convert 87 9 (.slice (some ⟨a1, 0, none⟩) N N)).run Try.prog w8 = .ok (.string (strOfNums _)) w8 := row_text hRw8 hK.m2.byt (by first | exact HN.out | exact HN.out.trans (S.storeX_length rs.all bs a1_16).symm) 0
    have HGR := Lib.hid (gr_below hK.gr)
    have E1 := fun W => eql_Fs rl.f.isf rl.f.cause rl.f.val W
    clear hK r15 r16 hRw7 hRw8
    go_wp2_with fail
    go_ret
    exact ⟨rfl, HGR.out⟩
  · have hand : bits .and .u8 a1_0 3 = 1 := by rw [hand]; exact hk
    have k0 : Z.cell? ⟨b + 1, 0, none⟩ = some (.int .u8 a1_0) := hK.opr.cell 0
    have lt := hK.opr.lt
    go_upto_region 14 with (fail)
    clear k0 lt hk
    have k0 : Z.cell? ⟨b + 1, 0, none⟩ = some (.int .u8 a1_0) := hK.opr.cell 0
    have k1 : Z.cell? ⟨b + 1, 1, none⟩ = some (.int .u64 a1_1) := hK.opr.cell 1
    have k2 : Z.cell? ⟨b + 1, 2, none⟩ = some (.int .u64 a1_2) := hK.opr.cell 2
    have k3 : Z.cell? ⟨b + 1, 3, none⟩ = some (.int .u64 a1_3) := hK.opr.cell 3
    have k4 : Z.cell? ⟨b + 1, 4, none⟩ = some (.int .u64 a1_4) := hK.opr.cell 4
    have k5 : Z.cell? ⟨b + 1, 5, none⟩ = some (.int .u64 a1_5) := hK.opr.cell 5
    have k6 : Z.cell? ⟨b + 1, 6, none⟩ = some (.int .u64 a1_6) := hK.opr.cell 6
    have k7 : Z.cell? ⟨b + 1, 7, none⟩ = some (.int .u64 a1_7) := hK.opr.cell 7
    have k8 : Z.cell? ⟨b + 1, 8, none⟩ = some (.int .u64 a1_8) := hK.opr.cell 8
    have k9 : Z.cell? ⟨b + 1, 9, none⟩ = some (.int .u64 a1_9) := hK.opr.cell 9
    have k10 : Z.cell? ⟨b + 1, 10, none⟩ = some (.int .u64 a1_10) := hK.opr.cell 10
    have k11 : Z.cell? ⟨b + 1, 11, none⟩ = some (.int .u64 a1_11) := hK.opr.cell 11
    have k12 : Z.cell? ⟨b + 1, 12, none⟩ = some (.int .u64 a1_12) := hK.opr.cell 12
    have k13 : Z.cell? ⟨b + 1, 13, none⟩ = some (.int .i64 a1_13) := hK.opr.cell 13
    have k14 : Z.cell? ⟨b + 1, 14, none⟩ = some (.int .i64 a1_14) := hK.opr.cell 14
    have k15 : Z.cell? ⟨b + 1, 15, none⟩ = some (.int .u64 a1_15) := hK.opr.cell 15
    have k16 : Z.cell? ⟨b + 1, 16, none⟩ = some (.int .u64 a1_16) := hK.opr.cell 16
    have k17 : Z.cell? ⟨b + 1, 17, none⟩ = some (.int .u8 a1_17) := hK.opr.cell 17
    have s0 : Z.cell? ⟨s, 0, none⟩ = some (.pointer (some ⟨pm, 0, none⟩)) := hK.spa.cell 0
    have s1 : Z.cell? ⟨s, 1, none⟩ = some (.pointer (some ⟨tl, 0, none⟩)) := hK.spa.cell 1
    have lt := hK.opr.lt
    have ls := hK.spa.lt
    have fz := fault_free r15
    obtain ⟨⟨z0, z1, z2⟩, zf, zl⟩ := fz
    have HK := Lib.hid (And.intro hK (And.intro hS1 (And.intro r15 (And.intro r16 hS2))))
    clear hK hS1 hS2 r15 r16 z0 z1 z2 zf zl
    go_wp2_with fail
    refine (L1.out _ _ _ _ _ HK.out.2.1).mono ?_
    rintro e u1 ⟨rfl, hS, hF⟩
    obtain ⟨hK, -, r15, r16, hS2⟩ := HK.out
    have hfr15 := hF.row r15 (by decide) (by decide) (r15.apart hK.m1.row (by decide))
    have hfr16 := hF.row r16 (by decide) (by decide) (r16.apart hK.m1.row (by decide))
    replace hS2 : Spc u1 B2 pm2 gm2 bs none 0 0 [] := ⟨(hK.fr1 hF hB1 hS.mem).m2, hS2.own, rfl, rfl⟩
    replace hK := hK.fr1 hF hB1 hS.mem
    clear r15 r16 HK hF hS k0 k1 k2 k3 k4 k5 k6 k7 k8 k9 k10 k11 k12 k13 k14 k15 k16 k17 s0 s1 lt ls
    obtain ⟨⟨z0, z1, z2⟩, zf, zl⟩ := fault_free hfr15
    have hgs := gr_set3 u1 f15 (.bool rl.f.isf) (.int .i64 rl.f.cause) (.int .u64 rl.f.val)
    have HK := Lib.hid (And.intro (hK.set hfr15 hgs hf15) (And.intro (hS2.set hfr15 (by decide) (by decide) (by decide) (by decide) hgs) (And.intro (put3 hfr15 (.bool rl.f.isf) (.int .i64 rl.f.cause) (.int .u64 rl.f.val)) (hfr16.grown hgs (some_ne (by omega))))))
    clear hK hS2 hfr15 hfr16 hgs
    go_upto_region 15 with (fail)
    obtain ⟨hK, hS2, r15, r16⟩ := HK.out
    clear HK z0 z1 z2 zf zl
    generalize (((u1.setCell ⟨f15, 0, none⟩ (.bool rl.f.isf)).setCell ⟨f15, 1, none⟩ (.int .i64 rl.f.cause)).setCell ⟨f15, 2, none⟩ (.int .u64 rl.f.val)) = u1' at *
    have k0 : u1'.cell? ⟨b + 1, 0, none⟩ = some (.int .u8 a1_0) := hK.opr.cell 0
    have k1 : u1'.cell? ⟨b + 1, 1, none⟩ = some (.int .u64 a1_1) := hK.opr.cell 1
    have k2 : u1'.cell? ⟨b + 1, 2, none⟩ = some (.int .u64 a1_2) := hK.opr.cell 2
    have k3 : u1'.cell? ⟨b + 1, 3, none⟩ = some (.int .u64 a1_3) := hK.opr.cell 3
    have k4 : u1'.cell? ⟨b + 1, 4, none⟩ = some (.int .u64 a1_4) := hK.opr.cell 4
    have k5 : u1'.cell? ⟨b + 1, 5, none⟩ = some (.int .u64 a1_5) := hK.opr.cell 5
    have k6 : u1'.cell? ⟨b + 1, 6, none⟩ = some (.int .u64 a1_6) := hK.opr.cell 6
    have k7 : u1'.cell? ⟨b + 1, 7, none⟩ = some (.int .u64 a1_7) := hK.opr.cell 7
    have k8 : u1'.cell? ⟨b + 1, 8, none⟩ = some (.int .u64 a1_8) := hK.opr.cell 8
    have k9 : u1'.cell? ⟨b + 1, 9, none⟩ = some (.int .u64 a1_9) := hK.opr.cell 9
    have k10 : u1'.cell? ⟨b + 1, 10, none⟩ = some (.int .u64 a1_10) := hK.opr.cell 10
    have k11 : u1'.cell? ⟨b + 1, 11, none⟩ = some (.int .u64 a1_11) := hK.opr.cell 11
    have k12 : u1'.cell? ⟨b + 1, 12, none⟩ = some (.int .u64 a1_12) := hK.opr.cell 12
    have k13 : u1'.cell? ⟨b + 1, 13, none⟩ = some (.int .i64 a1_13) := hK.opr.cell 13
    have k14 : u1'.cell? ⟨b + 1, 14, none⟩ = some (.int .i64 a1_14) := hK.opr.cell 14
    have k15 : u1'.cell? ⟨b + 1, 15, none⟩ = some (.int .u64 a1_15) := hK.opr.cell 15
    have k16 : u1'.cell? ⟨b + 1, 16, none⟩ = some (.int .u64 a1_16) := hK.opr.cell 16
    have k17 : u1'.cell? ⟨b + 1, 17, none⟩ = some (.int .u8 a1_17) := hK.opr.cell 17
    have s0 : u1'.cell? ⟨t, 0, none⟩ = some (.pointer (some ⟨pm2, 0, none⟩)) := hK.spb.cell 0
    have s1 : u1'.cell? ⟨t, 1, none⟩ = some (.pointer none) := hK.spb.cell 1
    have lt := hK.opr.lt
    have ls := hK.spb.lt
    have fz := fault_free r16
    obtain ⟨⟨z0, z1, z2⟩, zf, zl⟩ := fz
    have HK := Lib.hid (And.intro hK (And.intro hS2 (And.intro r15 (And.intro r16 hS2))))
    clear hK hS2 r15 r16 z0 z1 z2 zf zl
    go_wp2_with fail
    refine (L2.out _ _ _ _ HK.out.2.1).mono ?_
    rintro e u2 ⟨rfl, hS, hF⟩
    obtain ⟨hK, -, r15, r16, hS2⟩ := HK.out
    have hfr15 := hF.row r15 (by decide) (by decide) (r15.apart hK.m2.row (by decide))
    have hfr16 := hF.row r16 (by decide) (by decide) (r16.apart hK.m2.row (by decide))
    replace hK := hK.fr2 hF hB2 hS.mem
    clear r15 r16 HK hF hS k0 k1 k2 k3 k4 k5 k6 k7 k8 k9 k10 k11 k12 k13 k14 k15 k16 k17 s0 s1 lt ls
    obtain ⟨⟨z0, z1, z2⟩, zf, zl⟩ := fault_free hfr16
    have hgs := gr_set3 u2 f16 (.bool rl.f.isf) (.int .i64 rl.f.cause) (.int .u64 rl.f.val)
    have HK := Lib.hid (And.intro (hK.set hfr16 hgs hf16) (And.intro (trivial) (And.intro (put3 hfr16 (.bool rl.f.isf) (.int .i64 rl.f.cause) (.int .u64 rl.f.val)) (hfr15.grown hgs (some_ne (by omega))))))
    clear hK hS2 hfr15 hfr16 hgs
    go_upto_region 26 with (fail)
    obtain ⟨hK, -, r16, r15⟩ := HK.out
    clear HK z0 z1 z2 zf zl
    generalize (((u2.setCell ⟨f16, 0, none⟩ (.bool rl.f.isf)).setCell ⟨f16, 1, none⟩ (.int .i64 rl.f.cause)).setCell ⟨f16, 2, none⟩ (.int .u64 rl.f.val)) = u2' at *
    generalize hV0 : u2' = V0 at *
    clear hV0
    obtain ⟨N, hN⟩ : ∃ N, N = bs.length := ⟨_, rfl⟩
    have HN := Lib.hid hN
    clear hN
    have AL := Lib.hid (all_c (w := V0.drew) hK.m1.drew (show N = List.length _ by first | exact HN.out | exact HN.out.trans (S.storeX_length rs.all bs a1_16).symm))
    have KS : ∀ w', V0.grownBy w' none → (w'.cell? ⟨ys, 0, none⟩ = some (.pointer (some ⟨p', 0, none⟩)) ∧ w'.cell? ⟨p', 0, none⟩ = some (.slice (some ⟨g', 0, none⟩) N N) ∧ w'.cell? ⟨s, 0, none⟩ = some (.pointer (some ⟨pm, 0, none⟩)) ∧ V0.grownBy w' none) := fun w' h =>
      ⟨(hK.yr.grown h (by simp)).cell 0, by have := (hK.q.kept h).head; rwa [← HN.out] at this, (hK.spa.grown h (by simp)).cell 0, h⟩
    have HKS := Lib.hid KS
    have yl := hK.yr.lt
    have yl2 := hK.q.ptr.lt
    have ls := hK.spa.lt
    have HK := Lib.hid (And.intro hK (And.intro r15 r16))
    clear hK r15 r16 KS
    go_wp2_with fail
    go_region_held3 (fun w' => w'.cell? ⟨ys, 0, none⟩ = some (.pointer (some ⟨p', 0, none⟩)) ∧ w'.cell? ⟨p', 0, none⟩ = some (.slice (some ⟨g', 0, none⟩) N N) ∧ w'.cell? ⟨s, 0, none⟩ = some (.pointer (some ⟨pm, 0, none⟩)) ∧ V0.grownBy w' none)
      (first | (with_reducible assumption) | exact HKS.out _ (gr_drew (gr_refl _ none)) | exact HKS.out _ (gr_trans (gr_drew (gr_refl _ none)) (by assumption)))
      (first | (go_at_call 45; refine AL.out.mono ?_; rintro e w7 ⟨rfl, hRw7, hG7⟩))
    rename_i w7 hRw7 hG7 hHeld
    have hG : V0.grownBy w7 none := gr_trans (gr_drew (gr_refl V0 none)) hG7
    obtain ⟨hK, r15, r16⟩ := HK.out
    replace hK := hK.keep hG
    replace r15 := r15.grown hG (by simp)
    replace r16 := r16.grown hG (by simp)
    clear HK AL HKS hHeld yl yl2 ls hG7 hG
    have hae : V0.drew.heap.size = V0.heap.size := rfl
    rw [hae] at hRw7
    clear hae
    generalize V0.heap.size = a0 at *
    go_upto_region 27 with (fail)
    generalize hV1 : w7 = V1 at *
    clear hV1
    have AL := Lib.hid (all_c (w := V1.drew) hK.m2.drew (show N = List.length _ by first | exact HN.out | exact HN.out.trans (S.storeX_length rs.all bs a1_16).symm))
    have KS : ∀ w', V1.grownBy w' none → (w'.cell? ⟨ys, 0, none⟩ = some (.pointer (some ⟨p', 0, none⟩)) ∧ w'.cell? ⟨p', 0, none⟩ = some (.slice (some ⟨g', 0, none⟩) N N) ∧ w'.cell? ⟨t, 0, none⟩ = some (.pointer (some ⟨pm2, 0, none⟩)) ∧ V1.grownBy w' none) := fun w' h =>
      ⟨(hK.yr.grown h (by simp)).cell 0, by have := (hK.q.kept h).head; rwa [← HN.out] at this, (hK.spb.grown h (by simp)).cell 0, h⟩
    have HKS := Lib.hid KS
    have yl := hK.yr.lt
    have yl2 := hK.q.ptr.lt
    have ls := hK.spb.lt
    have HK := Lib.hid (And.intro hK (And.intro r15 r16))
    clear hK r15 r16 KS
    go_wp2_with fail
    go_region_held3 (fun w' => w'.cell? ⟨ys, 0, none⟩ = some (.pointer (some ⟨p', 0, none⟩)) ∧ w'.cell? ⟨p', 0, none⟩ = some (.slice (some ⟨g', 0, none⟩) N N) ∧ w'.cell? ⟨t, 0, none⟩ = some (.pointer (some ⟨pm2, 0, none⟩)) ∧ V1.grownBy w' none)
      (first | (with_reducible assumption) | exact HKS.out _ (gr_drew (gr_refl _ none)) | exact HKS.out _ (gr_trans (gr_drew (gr_refl _ none)) (by assumption)))
      (first | (go_at_call 45; refine AL.out.mono ?_; rintro e w8 ⟨rfl, hRw8, hG7⟩))
    rename_i w8 hRw8 hG7 hHeld
    have hG : V1.grownBy w8 none := gr_trans (gr_drew (gr_refl V1 none)) hG7
    obtain ⟨hK, r15, r16⟩ := HK.out
    replace hK := hK.keep hG
    replace r15 := r15.grown hG (by simp)
    replace r16 := r16.grown hG (by simp)
    replace hRw7 := hRw7.grown hG (by simp)
    clear HK AL HKS hHeld yl yl2 ls hG7 hG
    have hae : V1.drew.heap.size = V1.heap.size := rfl
    rw [hae] at hRw8
    clear hae
    generalize V1.heap.size = a1 at *
    go_upto_region 28 with (fail)
    obtain ⟨⟨i0, i1, i2⟩, -, li⟩ := fault_free r15
    obtain ⟨⟨j0, j1, j2⟩, -, lj⟩ := fault_free r16
    have t1 : (convert 87 9 (.slice (some ⟨a0, 0, none⟩) N N)).run Try.prog w8 = .ok (.string (strOfNums _)) w8 := row_text hRw7 hK.m1.byt (by first | exact HN.out | exact HN.out.trans (S.storeX_length rs.all bs a1_16).symm) 0
    have t2 : (convert 87 9 (.slice (some ⟨a1, 0, none⟩) N N)).run Try.prog w8 = .ok (.string (strOfNums _)) w8 := row_text hRw8 hK.m2.byt (by first | exact HN.out | exact HN.out.trans (S.storeX_length rs.all bs a1_16).symm) 0
    have HGR := Lib.hid (gr_below hK.gr)
    have E1 := fun W => eql_Fs rl.f.isf rl.f.cause rl.f.val W
    clear hK r15 r16 hRw7 hRw8
    go_wp2_with fail
    go_ret
    exact ⟨rfl, HGR.out⟩
  · have hand : bits .and .u8 a1_0 3 = 2 := by rw [hand]; exact hk
    have k0 : Z.cell? ⟨b + 1, 0, none⟩ = some (.int .u8 a1_0) := hK.opr.cell 0
    have lt := hK.opr.lt
    go_upto_region 17 with (fail)
    clear k0 lt hk
    have k0 : Z.cell? ⟨b + 1, 0, none⟩ = some (.int .u8 a1_0) := hK.opr.cell 0
    have k1 : Z.cell? ⟨b + 1, 1, none⟩ = some (.int .u64 a1_1) := hK.opr.cell 1
    have k2 : Z.cell? ⟨b + 1, 2, none⟩ = some (.int .u64 a1_2) := hK.opr.cell 2
    have k3 : Z.cell? ⟨b + 1, 3, none⟩ = some (.int .u64 a1_3) := hK.opr.cell 3
    have k4 : Z.cell? ⟨b + 1, 4, none⟩ = some (.int .u64 a1_4) := hK.opr.cell 4
    have k5 : Z.cell? ⟨b + 1, 5, none⟩ = some (.int .u64 a1_5) := hK.opr.cell 5
    have k6 : Z.cell? ⟨b + 1, 6, none⟩ = some (.int .u64 a1_6) := hK.opr.cell 6
    have k7 : Z.cell? ⟨b + 1, 7, none⟩ = some (.int .u64 a1_7) := hK.opr.cell 7
    have k8 : Z.cell? ⟨b + 1, 8, none⟩ = some (.int .u64 a1_8) := hK.opr.cell 8
    have k9 : Z.cell? ⟨b + 1, 9, none⟩ = some (.int .u64 a1_9) := hK.opr.cell 9
    have k10 : Z.cell? ⟨b + 1, 10, none⟩ = some (.int .u64 a1_10) := hK.opr.cell 10
    have k11 : Z.cell? ⟨b + 1, 11, none⟩ = some (.int .u64 a1_11) := hK.opr.cell 11
    have k12 : Z.cell? ⟨b + 1, 12, none⟩ = some (.int .u64 a1_12) := hK.opr.cell 12
    have k13 : Z.cell? ⟨b + 1, 13, none⟩ = some (.int .i64 a1_13) := hK.opr.cell 13
    have k14 : Z.cell? ⟨b + 1, 14, none⟩ = some (.int .i64 a1_14) := hK.opr.cell 14
    have k15 : Z.cell? ⟨b + 1, 15, none⟩ = some (.int .u64 a1_15) := hK.opr.cell 15
    have k16 : Z.cell? ⟨b + 1, 16, none⟩ = some (.int .u64 a1_16) := hK.opr.cell 16
    have k17 : Z.cell? ⟨b + 1, 17, none⟩ = some (.int .u8 a1_17) := hK.opr.cell 17
    have s0 : Z.cell? ⟨s, 0, none⟩ = some (.pointer (some ⟨pm, 0, none⟩)) := hK.spa.cell 0
    have s1 : Z.cell? ⟨s, 1, none⟩ = some (.pointer (some ⟨tl, 0, none⟩)) := hK.spa.cell 1
    have lt := hK.opr.lt
    have ls := hK.spa.lt
    have fz := fault_free r15
    obtain ⟨⟨z0, z1, z2⟩, zf, zl⟩ := fz
    have HK := Lib.hid (And.intro hK (And.intro hS1 (And.intro r15 (And.intro r16 hS2))))
    clear hK hS1 hS2 r15 r16 z0 z1 z2 zf zl
    go_wp2_with fail
    refine (S1.out _ _ _ _ _ HK.out.2.1).mono ?_
    rintro e u1 ⟨v, rfl, -, hS, hF⟩
    obtain ⟨hK, -, r15, r16, hS2⟩ := HK.out
    have hfr15 := hF.row r15 (by decide) (by decide) (r15.apart hK.m1.row (by decide))
    have hfr16 := hF.row r16 (by decide) (by decide) (r16.apart hK.m1.row (by decide))
    replace hS2 : Spc u1 B2 pm2 gm2 bs none 0 0 [] := ⟨(hK.fr1 hF hB1 hS.mem).m2, hS2.own, rfl, rfl⟩
    replace hK := hK.fr1 hF hB1 hS.mem
    clear r15 r16 HK hF hS k0 k1 k2 k3 k4 k5 k6 k7 k8 k9 k10 k11 k12 k13 k14 k15 k16 k17 s0 s1 lt ls
    obtain ⟨⟨z0, z1, z2⟩, zf, zl⟩ := fault_free hfr15
    have hgs := gr_set3 u1 f15 (.bool rs.f.isf) (.int .i64 rs.f.cause) (.int .u64 rs.f.val)
    have HK := Lib.hid (And.intro (hK.set hfr15 hgs hf15) (And.intro (hS2.set hfr15 (by decide) (by decide) (by decide) (by decide) hgs) (And.intro (put3 hfr15 (.bool rs.f.isf) (.int .i64 rs.f.cause) (.int .u64 rs.f.val)) (hfr16.grown hgs (some_ne (by omega))))))
    clear hK hS2 hfr15 hfr16 hgs
    go_upto_region 18 with (fail)
    obtain ⟨hK, hS2, r15, r16⟩ := HK.out
    clear HK z0 z1 z2 zf zl
    generalize (((u1.setCell ⟨f15, 0, none⟩ (.bool rs.f.isf)).setCell ⟨f15, 1, none⟩ (.int .i64 rs.f.cause)).setCell ⟨f15, 2, none⟩ (.int .u64 rs.f.val)) = u1' at *
    have k0 : u1'.cell? ⟨b + 1, 0, none⟩ = some (.int .u8 a1_0) := hK.opr.cell 0
    have k1 : u1'.cell? ⟨b + 1, 1, none⟩ = some (.int .u64 a1_1) := hK.opr.cell 1
    have k2 : u1'.cell? ⟨b + 1, 2, none⟩ = some (.int .u64 a1_2) := hK.opr.cell 2
    have k3 : u1'.cell? ⟨b + 1, 3, none⟩ = some (.int .u64 a1_3) := hK.opr.cell 3
    have k4 : u1'.cell? ⟨b + 1, 4, none⟩ = some (.int .u64 a1_4) := hK.opr.cell 4
    have k5 : u1'.cell? ⟨b + 1, 5, none⟩ = some (.int .u64 a1_5) := hK.opr.cell 5
    have k6 : u1'.cell? ⟨b + 1, 6, none⟩ = some (.int .u64 a1_6) := hK.opr.cell 6
    have k7 : u1'.cell? ⟨b + 1, 7, none⟩ = some (.int .u64 a1_7) := hK.opr.cell 7
    have k8 : u1'.cell? ⟨b + 1, 8, none⟩ = some (.int .u64 a1_8) := hK.opr.cell 8
    have k9 : u1'.cell? ⟨b + 1, 9, none⟩ = some (.int .u64 a1_9) := hK.opr.cell 9
    have k10 : u1'.cell? ⟨b + 1, 10, none⟩ = some (.int .u64 a1_10) := hK.opr.cell 10
    have k11 : u1'.cell? ⟨b + 1, 11, none⟩ = some (.int .u64 a1_11) := hK.opr.cell 11
    have k12 : u1'.cell? ⟨b + 1, 12, none⟩ = some (.int .u64 a1_12) := hK.opr.cell 12
    have k13 : u1'.cell? ⟨b + 1, 13, none⟩ = some (.int .i64 a1_13) := hK.opr.cell 13
    have k14 : u1'.cell? ⟨b + 1, 14, none⟩ = some (.int .i64 a1_14) := hK.opr.cell 14
    have k15 : u1'.cell? ⟨b + 1, 15, none⟩ = some (.int .u64 a1_15) := hK.opr.cell 15
    have k16 : u1'.cell? ⟨b + 1, 16, none⟩ = some (.int .u64 a1_16) := hK.opr.cell 16
    have k17 : u1'.cell? ⟨b + 1, 17, none⟩ = some (.int .u8 a1_17) := hK.opr.cell 17
    have s0 : u1'.cell? ⟨t, 0, none⟩ = some (.pointer (some ⟨pm2, 0, none⟩)) := hK.spb.cell 0
    have s1 : u1'.cell? ⟨t, 1, none⟩ = some (.pointer none) := hK.spb.cell 1
    have lt := hK.opr.lt
    have ls := hK.spb.lt
    have fz := fault_free r16
    obtain ⟨⟨z0, z1, z2⟩, zf, zl⟩ := fz
    have HK := Lib.hid (And.intro hK (And.intro hS2 (And.intro r15 (And.intro r16 hS2))))
    clear hK hS2 r15 r16 z0 z1 z2 zf zl
    go_wp2_with fail
    refine (S2.out _ _ _ _ HK.out.2.1).mono ?_
    rintro e u2 ⟨v, rfl, -, hS, hF⟩
    obtain ⟨hK, -, r15, r16, hS2⟩ := HK.out
    have hfr15 := hF.row r15 (by decide) (by decide) (r15.apart hK.m2.row (by decide))
    have hfr16 := hF.row r16 (by decide) (by decide) (r16.apart hK.m2.row (by decide))
    replace hK := hK.fr2 hF hB2 hS.mem
    clear r15 r16 HK hF hS k0 k1 k2 k3 k4 k5 k6 k7 k8 k9 k10 k11 k12 k13 k14 k15 k16 k17 s0 s1 lt ls
    obtain ⟨⟨z0, z1, z2⟩, zf, zl⟩ := fault_free hfr16
    have hgs := gr_set3 u2 f16 (.bool rs.f.isf) (.int .i64 rs.f.cause) (.int .u64 rs.f.val)
    have HK := Lib.hid (And.intro (hK.set hfr16 hgs hf16) (And.intro (trivial) (And.intro (put3 hfr16 (.bool rs.f.isf) (.int .i64 rs.f.cause) (.int .u64 rs.f.val)) (hfr15.grown hgs (some_ne (by omega))))))
    clear hK hS2 hfr15 hfr16 hgs
    go_upto_region 26 with (fail)
    obtain ⟨hK, -, r16, r15⟩ := HK.out
    clear HK z0 z1 z2 zf zl
    generalize (((u2.setCell ⟨f16, 0, none⟩ (.bool rs.f.isf)).setCell ⟨f16, 1, none⟩ (.int .i64 rs.f.cause)).setCell ⟨f16, 2, none⟩ (.int .u64 rs.f.val)) = u2' at *
    generalize hV0 : u2' = V0 at *
    clear hV0
    obtain ⟨N, hN⟩ : ∃ N, N = bs.length := ⟨_, rfl⟩
    have HN := Lib.hid hN
    clear hN
    have AL := Lib.hid (all_c (w := V0.drew) hK.m1.drew (show N = List.length _ by first | exact HN.out | exact HN.out.trans (S.storeX_length rs.all bs a1_16).symm))
    have KS : ∀ w', V0.grownBy w' none → (w'.cell? ⟨ys, 0, none⟩ = some (.pointer (some ⟨p', 0, none⟩)) ∧ w'.cell? ⟨p', 0, none⟩ = some (.slice (some ⟨g', 0, none⟩) N N) ∧ w'.cell? ⟨s, 0, none⟩ = some (.pointer (some ⟨pm, 0, none⟩)) ∧ V0.grownBy w' none) := fun w' h =>
      ⟨(hK.yr.grown h (by simp)).cell 0, by have := (hK.q.kept h).head; rwa [← HN.out] at this, (hK.spa.grown h (by simp)).cell 0, h⟩
    have HKS := Lib.hid KS
    have yl := hK.yr.lt
    have yl2 := hK.q.ptr.lt
    have ls := hK.spa.lt
    have HK := Lib.hid (And.intro hK (And.intro r15 r16))
    clear hK r15 r16 KS
    go_wp2_with fail
    go_region_held3 (fun w' => w'.cell? ⟨ys, 0, none⟩ = some (.pointer (some ⟨p', 0, none⟩)) ∧ w'.cell? ⟨p', 0, none⟩ = some (.slice (some ⟨g', 0, none⟩) N N) ∧ w'.cell? ⟨s, 0, none⟩ = some (.pointer (some ⟨pm, 0, none⟩)) ∧ V0.grownBy w' none)
      (first | (with_reducible assumption) | exact HKS.out _ (gr_drew (gr_refl _ none)) | exact HKS.out _ (gr_trans (gr_drew (gr_refl _ none)) (by assumption)))
      (first | (go_at_call 45; refine AL.out.mono ?_; rintro e w7 ⟨rfl, hRw7, hG7⟩))
    rename_i w7 hRw7 hG7 hHeld
    have hG : V0.grownBy w7 none := gr_trans (gr_drew (gr_refl V0 none)) hG7
    obtain ⟨hK, r15, r16⟩ := HK.out
    replace hK := hK.keep hG
    replace r15 := r15.grown hG (by simp)
    replace r16 := r16.grown hG (by simp)
    clear HK AL HKS hHeld yl yl2 ls hG7 hG
    have hae : V0.drew.heap.size = V0.heap.size := rfl
    rw [hae] at hRw7
    clear hae
    generalize V0.heap.size = a0 at *
    go_upto_region 27 with (fail)
    generalize hV1 : w7 = V1 at *
    clear hV1
    have AL := Lib.hid (all_c (w := V1.drew) hK.m2.drew (show N = List.length _ by first | exact HN.out | exact HN.out.trans (S.storeX_length rs.all bs a1_16).symm))
    have KS : ∀ w', V1.grownBy w' none → (w'.cell? ⟨ys, 0, none⟩ = some (.pointer (some ⟨p', 0, none⟩)) ∧ w'.cell? ⟨p', 0, none⟩ = some (.slice (some ⟨g', 0, none⟩) N N) ∧ w'.cell? ⟨t, 0, none⟩ = some (.pointer (some ⟨pm2, 0, none⟩)) ∧ V1.grownBy w' none) := fun w' h =>
      ⟨(hK.yr.grown h (by simp)).cell 0, by have := (hK.q.kept h).head; rwa [← HN.out] at this, (hK.spb.grown h (by simp)).cell 0, h⟩
    have HKS := Lib.hid KS
    have yl := hK.yr.lt
    have yl2 := hK.q.ptr.lt
    have ls := hK.spb.lt
    have HK := Lib.hid (And.intro hK (And.intro r15 r16))
    clear hK r15 r16 KS
    go_wp2_with fail
    go_region_held3 (fun w' => w'.cell? ⟨ys, 0, none⟩ = some (.pointer (some ⟨p', 0, none⟩)) ∧ w'.cell? ⟨p', 0, none⟩ = some (.slice (some ⟨g', 0, none⟩) N N) ∧ w'.cell? ⟨t, 0, none⟩ = some (.pointer (some ⟨pm2, 0, none⟩)) ∧ V1.grownBy w' none)
      (first | (with_reducible assumption) | exact HKS.out _ (gr_drew (gr_refl _ none)) | exact HKS.out _ (gr_trans (gr_drew (gr_refl _ none)) (by assumption)))
      (first | (go_at_call 45; refine AL.out.mono ?_; rintro e w8 ⟨rfl, hRw8, hG7⟩))
    rename_i w8 hRw8 hG7 hHeld
    have hG : V1.grownBy w8 none := gr_trans (gr_drew (gr_refl V1 none)) hG7
    obtain ⟨hK, r15, r16⟩ := HK.out
    replace hK := hK.keep hG
    replace r15 := r15.grown hG (by simp)
    replace r16 := r16.grown hG (by simp)
    replace hRw7 := hRw7.grown hG (by simp)
    clear HK AL HKS hHeld yl yl2 ls hG7 hG
    have hae : V1.drew.heap.size = V1.heap.size := rfl
    rw [hae] at hRw8
    clear hae
    generalize V1.heap.size = a1 at *
    go_upto_region 28 with (fail)
    obtain ⟨⟨i0, i1, i2⟩, -, li⟩ := fault_free r15
    obtain ⟨⟨j0, j1, j2⟩, -, lj⟩ := fault_free r16
    have t1 : (convert 87 9 (.slice (some ⟨a0, 0, none⟩) N N)).run Try.prog w8 = .ok (.string (strOfNums _)) w8 := row_text hRw7 hK.m1.byt (by first | exact HN.out | exact HN.out.trans (S.storeX_length rs.all bs a1_16).symm) 0
    have t2 : (convert 87 9 (.slice (some ⟨a1, 0, none⟩) N N)).run Try.prog w8 = .ok (.string (strOfNums _)) w8 := row_text hRw8 hK.m2.byt (by first | exact HN.out | exact HN.out.trans (S.storeX_length rs.all bs a1_16).symm) 0
    have HGR := Lib.hid (gr_below hK.gr)
    have E1 := fun W => eql_Fs rs.f.isf rs.f.cause rs.f.val W
    clear hK r15 r16 hRw7 hRw8
    go_wp2_with fail
    go_ret
    exact ⟨rfl, HGR.out⟩
  · have hand : bits .and .u8 a1_0 3 = 3 := by rw [hand]; exact hk
    have k0 : Z.cell? ⟨b + 1, 0, none⟩ = some (.int .u8 a1_0) := hK.opr.cell 0
    have lt := hK.opr.lt
    go_upto_region 20 with (fail)
    clear k0 lt hk
    have k0 : Z.cell? ⟨b + 1, 0, none⟩ = some (.int .u8 a1_0) := hK.opr.cell 0
    have k1 : Z.cell? ⟨b + 1, 1, none⟩ = some (.int .u64 a1_1) := hK.opr.cell 1
    have k2 : Z.cell? ⟨b + 1, 2, none⟩ = some (.int .u64 a1_2) := hK.opr.cell 2
    have k3 : Z.cell? ⟨b + 1, 3, none⟩ = some (.int .u64 a1_3) := hK.opr.cell 3
    have k4 : Z.cell? ⟨b + 1, 4, none⟩ = some (.int .u64 a1_4) := hK.opr.cell 4
    have k5 : Z.cell? ⟨b + 1, 5, none⟩ = some (.int .u64 a1_5) := hK.opr.cell 5
    have k6 : Z.cell? ⟨b + 1, 6, none⟩ = some (.int .u64 a1_6) := hK.opr.cell 6
    have k7 : Z.cell? ⟨b + 1, 7, none⟩ = some (.int .u64 a1_7) := hK.opr.cell 7
    have k8 : Z.cell? ⟨b + 1, 8, none⟩ = some (.int .u64 a1_8) := hK.opr.cell 8
    have k9 : Z.cell? ⟨b + 1, 9, none⟩ = some (.int .u64 a1_9) := hK.opr.cell 9
    have k10 : Z.cell? ⟨b + 1, 10, none⟩ = some (.int .u64 a1_10) := hK.opr.cell 10
    have k11 : Z.cell? ⟨b + 1, 11, none⟩ = some (.int .u64 a1_11) := hK.opr.cell 11
    have k12 : Z.cell? ⟨b + 1, 12, none⟩ = some (.int .u64 a1_12) := hK.opr.cell 12
    have k13 : Z.cell? ⟨b + 1, 13, none⟩ = some (.int .i64 a1_13) := hK.opr.cell 13
    have k14 : Z.cell? ⟨b + 1, 14, none⟩ = some (.int .i64 a1_14) := hK.opr.cell 14
    have k15 : Z.cell? ⟨b + 1, 15, none⟩ = some (.int .u64 a1_15) := hK.opr.cell 15
    have k16 : Z.cell? ⟨b + 1, 16, none⟩ = some (.int .u64 a1_16) := hK.opr.cell 16
    have k17 : Z.cell? ⟨b + 1, 17, none⟩ = some (.int .u8 a1_17) := hK.opr.cell 17
    have s0 : Z.cell? ⟨s, 0, none⟩ = some (.pointer (some ⟨pm, 0, none⟩)) := hK.spa.cell 0
    have s1 : Z.cell? ⟨s, 1, none⟩ = some (.pointer (some ⟨tl, 0, none⟩)) := hK.spa.cell 1
    have lt := hK.opr.lt
    have ls := hK.spa.lt
    have fz := fault_free r15
    obtain ⟨⟨z0, z1, z2⟩, zf, zl⟩ := fz
    have HK := Lib.hid (And.intro hK (And.intro hS1 (And.intro r15 (And.intro r16 hS2))))
    clear hK hS1 hS2 r15 r16 z0 z1 z2 zf zl
    go_wp2_with fail
    refine (F1.out _ _ _ _ _ HK.out.2.1).mono ?_
    rintro e u1 ⟨rfl, hS, hF⟩
    obtain ⟨hK, -, r15, r16, hS2⟩ := HK.out
    have hfr15 := hF.row r15 (by decide) (by decide) (r15.apart hK.m1.row (by decide))
    have hfr16 := hF.row r16 (by decide) (by decide) (r16.apart hK.m1.row (by decide))
    replace hS2 : Spc u1 B2 pm2 gm2 bs none 0 0 [] := ⟨(hK.fr1 hF hB1 hS.mem).m2, hS2.own, rfl, rfl⟩
    replace hK := hK.fr1 hF hB1 hS.mem
    clear r15 r16 HK hF hS k0 k1 k2 k3 k4 k5 k6 k7 k8 k9 k10 k11 k12 k13 k14 k15 k16 k17 s0 s1 lt ls
    have hg := gr_alloc (gr_refl u1 none) (.cells #[.bool rf.f.isf, .int .i64 rf.f.cause, .int .u64 rf.f.val] 49)
    have q18r := newF u1 (.bool rf.f.isf) (.int .i64 rf.f.cause) (.int .u64 rf.f.val)
    have hq18 : f15 < u1.heap.size ∧ f16 < u1.heap.size := ⟨hfr15.lt, hfr16.lt⟩
    replace hK := hK.keep hg
    have r15 := hfr15.grown hg (by simp)
    have r16 := hfr16.grown hg (by simp)
    replace hS2 := hS2.keep hg
    clear hg hfr15 hfr16
    go_upto_region 21 with (fail)
    generalize u1.alloc (.cells #[.bool rf.f.isf, .int .i64 rf.f.cause, .int .u64 rf.f.val] 49) = U1 at *
    generalize u1.heap.size = q18 at *
    have k0 : U1.cell? ⟨b + 1, 0, none⟩ = some (.int .u8 a1_0) := hK.opr.cell 0
    have k1 : U1.cell? ⟨b + 1, 1, none⟩ = some (.int .u64 a1_1) := hK.opr.cell 1
    have k2 : U1.cell? ⟨b + 1, 2, none⟩ = some (.int .u64 a1_2) := hK.opr.cell 2
    have k3 : U1.cell? ⟨b + 1, 3, none⟩ = some (.int .u64 a1_3) := hK.opr.cell 3
    have k4 : U1.cell? ⟨b + 1, 4, none⟩ = some (.int .u64 a1_4) := hK.opr.cell 4
    have k5 : U1.cell? ⟨b + 1, 5, none⟩ = some (.int .u64 a1_5) := hK.opr.cell 5
    have k6 : U1.cell? ⟨b + 1, 6, none⟩ = some (.int .u64 a1_6) := hK.opr.cell 6
    have k7 : U1.cell? ⟨b + 1, 7, none⟩ = some (.int .u64 a1_7) := hK.opr.cell 7
    have k8 : U1.cell? ⟨b + 1, 8, none⟩ = some (.int .u64 a1_8) := hK.opr.cell 8
    have k9 : U1.cell? ⟨b + 1, 9, none⟩ = some (.int .u64 a1_9) := hK.opr.cell 9
    have k10 : U1.cell? ⟨b + 1, 10, none⟩ = some (.int .u64 a1_10) := hK.opr.cell 10
    have k11 : U1.cell? ⟨b + 1, 11, none⟩ = some (.int .u64 a1_11) := hK.opr.cell 11
    have k12 : U1.cell? ⟨b + 1, 12, none⟩ = some (.int .u64 a1_12) := hK.opr.cell 12
    have k13 : U1.cell? ⟨b + 1, 13, none⟩ = some (.int .i64 a1_13) := hK.opr.cell 13
    have k14 : U1.cell? ⟨b + 1, 14, none⟩ = some (.int .i64 a1_14) := hK.opr.cell 14
    have k15 : U1.cell? ⟨b + 1, 15, none⟩ = some (.int .u64 a1_15) := hK.opr.cell 15
    have k16 : U1.cell? ⟨b + 1, 16, none⟩ = some (.int .u64 a1_16) := hK.opr.cell 16
    have k17 : U1.cell? ⟨b + 1, 17, none⟩ = some (.int .u8 a1_17) := hK.opr.cell 17
    have s0 : U1.cell? ⟨t, 0, none⟩ = some (.pointer (some ⟨pm2, 0, none⟩)) := hK.spb.cell 0
    have s1 : U1.cell? ⟨t, 1, none⟩ = some (.pointer none) := hK.spb.cell 1
    have lt := hK.opr.lt
    have ls := hK.spb.lt
    have fz := fault_free r16
    obtain ⟨⟨z0, z1, z2⟩, zf, zl⟩ := fz
    have HK := Lib.hid (And.intro hK (And.intro hS2 (And.intro r15 (And.intro r16 hS2))))
    clear hK hS2 r15 r16 z0 z1 z2 zf zl
    go_wp2_with fail
    refine (F2.out _ _ _ _ HK.out.2.1).mono ?_
    rintro e u2 ⟨rfl, hS, hF⟩
    obtain ⟨hK, -, r15, r16, hS2⟩ := HK.out
    have hfr15 := hF.row r15 (by decide) (by decide) (r15.apart hK.m2.row (by decide))
    have hfr16 := hF.row r16 (by decide) (by decide) (r16.apart hK.m2.row (by decide))
    replace q18r := hF.row q18r (by decide) (by decide) (q18r.apart hK.m2.row (by decide))
    replace hK := hK.fr2 hF hB2 hS.mem
    clear r15 r16 HK hF hS k0 k1 k2 k3 k4 k5 k6 k7 k8 k9 k10 k11 k12 k13 k14 k15 k16 k17 s0 s1 lt ls
    have hg := gr_alloc (gr_refl u2 none) (.cells #[.bool rf.f.isf, .int .i64 rf.f.cause, .int .u64 rf.f.val] 49)
    have q20r := newF u2 (.bool rf.f.isf) (.int .i64 rf.f.cause) (.int .u64 rf.f.val)
    have hq20 : f15 < u2.heap.size ∧ f16 < u2.heap.size := ⟨hfr15.lt, hfr16.lt⟩
    replace hK := hK.keep hg
    have r15 := hfr15.grown hg (by simp)
    have r16 := hfr16.grown hg (by simp)
    replace q18r := q18r.grown hg (by simp)
    clear hS2
    clear hg hfr15 hfr16
    go_upto_region 22 with (fail)
    generalize u2.alloc (.cells #[.bool rf.f.isf, .int .i64 rf.f.cause, .int .u64 rf.f.val] 49) = U2 at *
    generalize u2.heap.size = q20 at *
    go_upto_region 24 with (fail)
    obtain ⟨⟨l0, l1, l2⟩, -, ll⟩ := fault_free q18r
    obtain ⟨⟨z0, z1, z2⟩, zf, zl⟩ := fault_free r15
    have hgs := gr_set3 U2 f15 (.bool rf.f.isf) (.int .i64 rf.f.cause) (.int .u64 rf.f.val)
    have HK := Lib.hid (And.intro (hK.set r15 hgs hf15) (And.intro (put3 r15 (.bool rf.f.isf) (.int .i64 rf.f.cause) (.int .u64 rf.f.val)) (And.intro (r16.grown hgs (some_ne (by omega))) (q20r.grown hgs (some_ne (by omega))))))
    clear hK r15 r16 q18r q20r hgs
    go_upto_region 25 with (fail)
    obtain ⟨hK, r15, r16, q20r⟩ := HK.out
    clear HK l0 l1 l2 ll z0 z1 z2 zf zl
    generalize (((U2.setCell ⟨f15, 0, none⟩ (.bool rf.f.isf)).setCell ⟨f15, 1, none⟩ (.int .i64 rf.f.cause)).setCell ⟨f15, 2, none⟩ (.int .u64 rf.f.val)) = U3 at *
    obtain ⟨⟨l0, l1, l2⟩, -, ll⟩ := fault_free q20r
    obtain ⟨⟨z0, z1, z2⟩, zf, zl⟩ := fault_free r16
    have hgs := gr_set3 U3 f16 (.bool rf.f.isf) (.int .i64 rf.f.cause) (.int .u64 rf.f.val)
    have HK := Lib.hid (And.intro (hK.set r16 hgs hf16) (And.intro (r15.grown hgs (some_ne (by omega))) (put3 r16 (.bool rf.f.isf) (.int .i64 rf.f.cause) (.int .u64 rf.f.val))))
    clear hK r15 r16 q20r hgs
    go_upto_region 26 with (fail)
    obtain ⟨hK, r15, r16⟩ := HK.out
    clear HK l0 l1 l2 ll z0 z1 z2 zf zl
    generalize (((U3.setCell ⟨f16, 0, none⟩ (.bool rf.f.isf)).setCell ⟨f16, 1, none⟩ (.int .i64 rf.f.cause)).setCell ⟨f16, 2, none⟩ (.int .u64 rf.f.val)) = V0 at *
    obtain ⟨N, hN⟩ : ∃ N, N = bs.length := ⟨_, rfl⟩
    have HN := Lib.hid hN
    clear hN
    have AL := Lib.hid (all_c (w := V0.drew) hK.m1.drew (show N = List.length _ by first | exact HN.out | exact HN.out.trans (S.storeX_length rs.all bs a1_16).symm))
    have KS : ∀ w', V0.grownBy w' none → (w'.cell? ⟨ys, 0, none⟩ = some (.pointer (some ⟨p', 0, none⟩)) ∧ w'.cell? ⟨p', 0, none⟩ = some (.slice (some ⟨g', 0, none⟩) N N) ∧ w'.cell? ⟨s, 0, none⟩ = some (.pointer (some ⟨pm, 0, none⟩)) ∧ V0.grownBy w' none) := fun w' h =>
      ⟨(hK.yr.grown h (by simp)).cell 0, by have := (hK.q.kept h).head; rwa [← HN.out] at this, (hK.spa.grown h (by simp)).cell 0, h⟩
    have HKS := Lib.hid KS
    have yl := hK.yr.lt
    have yl2 := hK.q.ptr.lt
    have ls := hK.spa.lt
    have HK := Lib.hid (And.intro hK (And.intro r15 r16))
    clear hK r15 r16 KS
    go_wp2_with fail
    go_region_held3 (fun w' => w'.cell? ⟨ys, 0, none⟩ = some (.pointer (some ⟨p', 0, none⟩)) ∧ w'.cell? ⟨p', 0, none⟩ = some (.slice (some ⟨g', 0, none⟩) N N) ∧ w'.cell? ⟨s, 0, none⟩ = some (.pointer (some ⟨pm, 0, none⟩)) ∧ V0.grownBy w' none)
      (first | (with_reducible assumption) | exact HKS.out _ (gr_drew (gr_refl _ none)) | exact HKS.out _ (gr_trans (gr_drew (gr_refl _ none)) (by assumption)))
      (first | (go_at_call 45; refine AL.out.mono ?_; rintro e w7 ⟨rfl, hRw7, hG7⟩))
    rename_i w7 hRw7 hG7 hHeld
    have hG : V0.grownBy w7 none := gr_trans (gr_drew (gr_refl V0 none)) hG7
    obtain ⟨hK, r15, r16⟩ := HK.out
    replace hK := hK.keep hG
    replace r15 := r15.grown hG (by simp)
    replace r16 := r16.grown hG (by simp)
    clear HK AL HKS hHeld yl yl2 ls hG7 hG
    have hae : V0.drew.heap.size = V0.heap.size := rfl
    rw [hae] at hRw7
    clear hae
    generalize V0.heap.size = a0 at *
    go_upto_region 27 with (fail)
    generalize hV1 : w7 = V1 at *
    clear hV1
    have AL := Lib.hid (all_c (w := V1.drew) hK.m2.drew (show N = List.length _ by first | exact HN.out | exact HN.out.trans (S.storeX_length rs.all bs a1_16).symm))
    have KS : ∀ w', V1.grownBy w' none → (w'.cell? ⟨ys, 0, none⟩ = some (.pointer (some ⟨p', 0, none⟩)) ∧ w'.cell? ⟨p', 0, none⟩ = some (.slice (some ⟨g', 0, none⟩) N N) ∧ w'.cell? ⟨t, 0, none⟩ = some (.pointer (some ⟨pm2, 0, none⟩)) ∧ V1.grownBy w' none) := fun w' h =>
      ⟨(hK.yr.grown h (by simp)).cell 0, by have := (hK.q.kept h).head; rwa [← HN.out] at this, (hK.spb.grown h (by simp)).cell 0, h⟩
    have HKS := Lib.hid KS
    have yl := hK.yr.lt
    have yl2 := hK.q.ptr.lt
    have ls := hK.spb.lt
    have HK := Lib.hid (And.intro hK (And.intro r15 r16))
    clear hK r15 r16 KS
    go_wp2_with fail
    go_region_held3 (fun w' => w'.cell? ⟨ys, 0, none⟩ = some (.pointer (some ⟨p', 0, none⟩)) ∧ w'.cell? ⟨p', 0, none⟩ = some (.slice (some ⟨g', 0, none⟩) N N) ∧ w'.cell? ⟨t, 0, none⟩ = some (.pointer (some ⟨pm2, 0, none⟩)) ∧ V1.grownBy w' none)
      (first | (with_reducible assumption) | exact HKS.out _ (gr_drew (gr_refl _ none)) | exact HKS.out _ (gr_trans (gr_drew (gr_refl _ none)) (by assumption)))
      (first | (go_at_call 45; refine AL.out.mono ?_; rintro e w8 ⟨rfl, hRw8, hG7⟩))
    rename_i w8 hRw8 hG7 hHeld
    have hG : V1.grownBy w8 none := gr_trans (gr_drew (gr_refl V1 none)) hG7
    obtain ⟨hK, r15, r16⟩ := HK.out
    replace hK := hK.keep hG
    replace r15 := r15.grown hG (by simp)
    replace r16 := r16.grown hG (by simp)
    replace hRw7 := hRw7.grown hG (by simp)
    clear HK AL HKS hHeld yl yl2 ls hG7 hG
    have hae : V1.drew.heap.size = V1.heap.size := rfl
    rw [hae] at hRw8
    clear hae
    generalize V1.heap.size = a1 at *
    go_upto_region 28 with (fail)
    obtain ⟨⟨i0, i1, i2⟩, -, li⟩ := fault_free r15
    obtain ⟨⟨j0, j1, j2⟩, -, lj⟩ := fault_free r16
    have t1 : (convert 87 9 (.slice (some ⟨a0, 0, none⟩) N N)).run Try.prog w8 = .ok (.string (strOfNums _)) w8 := row_text hRw7 hK.m1.byt (by first | exact HN.out | exact HN.out.trans (S.storeX_length rs.all bs a1_16).symm) 0
    have t2 : (convert 87 9 (.slice (some ⟨a1, 0, none⟩) N N)).run Try.prog w8 = .ok (.string (strOfNums _)) w8 := row_text hRw8 hK.m2.byt (by first | exact HN.out | exact HN.out.trans (S.storeX_length rs.all bs a1_16).symm) 0
    have HGR := Lib.hid (gr_below hK.gr)
    have E1 := fun W => eql_Fs rf.f.isf rf.f.cause rf.f.val W
    clear hK r15 r16 hRw7 hRw8
    go_wp2_with fail
    go_ret
    exact ⟨rfl, HGR.out⟩

theorem own : ownKnob Try.prog.godebug = none := by kernel_rfl
theorem laidOut : laidOutB Try.prog = true := by kernel_rfl

set_option maxRecDepth 100000 in
theorem lifted (os : Os) (started : os.Started) (H : Type) (enc : TypeId × Value → H) :
    ReturnsInHanded {} Try.checked os 10 .any (Rows.spaceKeepsSpec.pre6 enc Try.prog Try.f10 Rows.spaceKeepsRow.domain false) (Rows.spaceKeepsSpec.post enc Try.prog Try.f10 false true false false) := by
  refine returnsInHanded_of_change (C := Try.checked) own started (by kernel_rfl) Try.func10
    (ChangeSpec.witness6 (enc := enc) (C := Try.checked) false ⟨#[], #[.agg #[.int .u8 0, .slice none 0 0], .agg #[.int .u8 0, .int .u64 0, .int .u64 0, .int .u64 0, .int .u64 0, .int .u64 0, .int .u64 0, .int .u64 0, .int .u64 0, .int .u64 0, .int .u64 0, .int .u64 0, .int .u64 0, .int .i64 0, .int .i64 0, .int .u64 0, .int .u64 0, .int .u8 0]], []⟩ 8 (by kernel_rfl) (by kernel_rfl) (by kernel_rfl) (by kernel_rfl)) ?_
  intro W base args ds gs before hval0 hW hcnd _
  have hval : ∀ (j : Nat) t v, Try.f10.params[j]? = some t → args[j]? = some v → Value.okWide Try.prog W .any base t v := hval0
  have hW' := hW
  obtain ⟨p, q, hA0, hV, rfl, hfz, hnd⟩ := hW
  have hA : DataW.TrodAll enc Try.prog W 0 (fun _ => true) true Try.f10.params.toList args.toList ds p := hA0
  rw [Try.params10] at hA hval
  obtain ⟨v0, vs0, d0, ds0, p0, q0, hargs, rfl, rfl, h0, r0⟩ := trodAll_cons hA
  obtain ⟨v1, vs1, d1, ds1, p1, q1, rfl, rfl, rfl, h1, r1⟩ := trodAll_cons r0
  obtain ⟨rfl, rfl, rfl⟩ := trodAll_nil r1
  obtain rfl : args = #[v0, v1] := by cases args; simp_all
  obtain ⟨rfl, rfl⟩ := trodVars_none hV
  clear hA0 hval0 hA
  have k0 := h0
  have lt0 : ∀ x ∈ p0, x.block < W.heap.size := by obtain ⟨m, hm⟩ := k0; exact DataW.trod_lt m _ _ _ hm
  obtain ⟨xs0, rfl, l0, m0, f0⟩ := Op.open_struct Try.underlying70 (hval 0 70 v0 rfl rfl) h0
  rw [show Try.prog.cellsOf 70 = 2 from by kernel_rfl] at l0
  obtain _ | ⟨c0_0, xs0⟩ := xs0
  · simp at l0
  obtain _ | ⟨c0_1, xs0⟩ := xs0
  · simp at l0
  obtain _ | ⟨_, _⟩ := xs0
  rotate_left
  · simp at l0
  clear h0
  obtain ⟨zf0_0, gf0_0⟩ := f0 0 _ rfl
  replace gf0_0 : DataW.trod enc Try.prog W 0 (fun _ => true) true m0 5 [c0_0] = some zf0_0 := gf0_0
  obtain ⟨a0_0, e0_0, _, w0_0⟩ := DataW.trod_int Try.underlying5 gf0_0
  simp at e0_0; subst e0_0
  obtain ⟨zf0_1, gf0_1⟩ := f0 1 _ rfl
  replace gf0_1 : DataW.trod enc Try.prog W 0 (fun _ => true) true m0 68 [c0_1] = some zf0_1 := gf0_1
  obtain ⟨A0_1, n0_1, k0_1, e0_1, mc0_1, cc0_1, raw0_1⟩ := Op.read_items Try.underlying68 Try.underlying137 (by kernel_rfl) (by kernel_rfl) (by decide) gf0_1
  subst e0_1
  have el0_1 : ∀ i, i < n0_1 → ∃ ad, A0_1 = some ad ∧ ad.block < W.heap.size ∧ ∃ (x0 : Int) (x1 : Int), (W.cell? (ad.add (i * 2 + 0)) = some (.int .u32 x0) ∧ (Lit.int .u32 x0).wf = true) ∧ (W.cell? (ad.add (i * 2 + 1)) = some (.int .u64 x1) ∧ (Lit.int .u64 x1).wf = true) := by
    intro i hi
    obtain ⟨ad, hA, hb, n, hf⟩ := raw0_1 i hi
    obtain ⟨u0, yy0, hu0, ht0⟩ := hf 0 _ rfl
    obtain ⟨x0, ee0, _, ww0⟩ := DataW.trod_int Try.underlying40 ht0; simp only [List.cons.injEq, and_true] at ee0; subst ee0
    obtain ⟨u1, yy1, hu1, ht1⟩ := hf 1 _ rfl
    obtain ⟨x1, ee1, _, ww1⟩ := DataW.trod_int Try.underlying35 ht1; simp only [List.cons.injEq, and_true] at ee1; subst ee1
    exact ⟨ad, hA, hb, x0, x1, ⟨hu0, ww0⟩, ⟨hu1, ww1⟩⟩
  have k1 := h1
  have lt1 : ∀ x ∈ p1, x.block < W.heap.size := by obtain ⟨m, hm⟩ := k1; exact DataW.trod_lt m _ _ _ hm
  obtain ⟨xs1, rfl, l1, m1, f1⟩ := Op.open_struct Try.underlying78 (hval 1 78 v1 rfl rfl) h1
  rw [show Try.prog.cellsOf 78 = 18 from by kernel_rfl] at l1
  obtain _ | ⟨c1_0, xs1⟩ := xs1
  · simp at l1
  obtain _ | ⟨c1_1, xs1⟩ := xs1
  · simp at l1
  obtain _ | ⟨c1_2, xs1⟩ := xs1
  · simp at l1
  obtain _ | ⟨c1_3, xs1⟩ := xs1
  · simp at l1
  obtain _ | ⟨c1_4, xs1⟩ := xs1
  · simp at l1
  obtain _ | ⟨c1_5, xs1⟩ := xs1
  · simp at l1
  obtain _ | ⟨c1_6, xs1⟩ := xs1
  · simp at l1
  obtain _ | ⟨c1_7, xs1⟩ := xs1
  · simp at l1
  obtain _ | ⟨c1_8, xs1⟩ := xs1
  · simp at l1
  obtain _ | ⟨c1_9, xs1⟩ := xs1
  · simp at l1
  obtain _ | ⟨c1_10, xs1⟩ := xs1
  · simp at l1
  obtain _ | ⟨c1_11, xs1⟩ := xs1
  · simp at l1
  obtain _ | ⟨c1_12, xs1⟩ := xs1
  · simp at l1
  obtain _ | ⟨c1_13, xs1⟩ := xs1
  · simp at l1
  obtain _ | ⟨c1_14, xs1⟩ := xs1
  · simp at l1
  obtain _ | ⟨c1_15, xs1⟩ := xs1
  · simp at l1
  obtain _ | ⟨c1_16, xs1⟩ := xs1
  · simp at l1
  obtain _ | ⟨c1_17, xs1⟩ := xs1
  · simp at l1
  obtain _ | ⟨_, _⟩ := xs1
  rotate_left
  · simp at l1
  clear h1
  obtain ⟨zf1_0, gf1_0⟩ := f1 0 _ rfl
  replace gf1_0 : DataW.trod enc Try.prog W 0 (fun _ => true) true m1 5 [c1_0] = some zf1_0 := gf1_0
  obtain ⟨a1_0, e1_0, _, w1_0⟩ := DataW.trod_int Try.underlying5 gf1_0
  simp at e1_0; subst e1_0
  obtain ⟨zf1_1, gf1_1⟩ := f1 1 _ rfl
  replace gf1_1 : DataW.trod enc Try.prog W 0 (fun _ => true) true m1 39 [c1_1, c1_2, c1_3, c1_4, c1_5, c1_6, c1_7, c1_8, c1_9, c1_10, c1_11, c1_12] = some zf1_1 := gf1_1
  obtain ⟨mf1_1, ff1_1⟩ := Op.read_struct Try.underlying39 gf1_1
  obtain ⟨zff1_1_0, gff1_1_0⟩ := ff1_1 0 _ rfl
  replace gff1_1_0 : DataW.trod enc Try.prog W 0 (fun _ => true) true mf1_1 35 [c1_1] = some zff1_1_0 := gff1_1_0
  obtain ⟨a1_1, e1_1, _, w1_1⟩ := DataW.trod_int Try.underlying35 gff1_1_0
  simp at e1_1; subst e1_1
  obtain ⟨zff1_1_1, gff1_1_1⟩ := ff1_1 1 _ rfl
  replace gff1_1_1 : DataW.trod enc Try.prog W 0 (fun _ => true) true mf1_1 35 [c1_2] = some zff1_1_1 := gff1_1_1
  obtain ⟨a1_2, e1_2, _, w1_2⟩ := DataW.trod_int Try.underlying35 gff1_1_1
  simp at e1_2; subst e1_2
  obtain ⟨zff1_1_2, gff1_1_2⟩ := ff1_1 2 _ rfl
  replace gff1_1_2 : DataW.trod enc Try.prog W 0 (fun _ => true) true mf1_1 35 [c1_3] = some zff1_1_2 := gff1_1_2
  obtain ⟨a1_3, e1_3, _, w1_3⟩ := DataW.trod_int Try.underlying35 gff1_1_2
  simp at e1_3; subst e1_3
  obtain ⟨zff1_1_3, gff1_1_3⟩ := ff1_1 3 _ rfl
  replace gff1_1_3 : DataW.trod enc Try.prog W 0 (fun _ => true) true mf1_1 35 [c1_4] = some zff1_1_3 := gff1_1_3
  obtain ⟨a1_4, e1_4, _, w1_4⟩ := DataW.trod_int Try.underlying35 gff1_1_3
  simp at e1_4; subst e1_4
  obtain ⟨zff1_1_4, gff1_1_4⟩ := ff1_1 4 _ rfl
  replace gff1_1_4 : DataW.trod enc Try.prog W 0 (fun _ => true) true mf1_1 35 [c1_5] = some zff1_1_4 := gff1_1_4
  obtain ⟨a1_5, e1_5, _, w1_5⟩ := DataW.trod_int Try.underlying35 gff1_1_4
  simp at e1_5; subst e1_5
  obtain ⟨zff1_1_5, gff1_1_5⟩ := ff1_1 5 _ rfl
  replace gff1_1_5 : DataW.trod enc Try.prog W 0 (fun _ => true) true mf1_1 35 [c1_6] = some zff1_1_5 := gff1_1_5
  obtain ⟨a1_6, e1_6, _, w1_6⟩ := DataW.trod_int Try.underlying35 gff1_1_5
  simp at e1_6; subst e1_6
  obtain ⟨zff1_1_6, gff1_1_6⟩ := ff1_1 6 _ rfl
  replace gff1_1_6 : DataW.trod enc Try.prog W 0 (fun _ => true) true mf1_1 35 [c1_7] = some zff1_1_6 := gff1_1_6
  obtain ⟨a1_7, e1_7, _, w1_7⟩ := DataW.trod_int Try.underlying35 gff1_1_6
  simp at e1_7; subst e1_7
  obtain ⟨zff1_1_7, gff1_1_7⟩ := ff1_1 7 _ rfl
  replace gff1_1_7 : DataW.trod enc Try.prog W 0 (fun _ => true) true mf1_1 35 [c1_8] = some zff1_1_7 := gff1_1_7
  obtain ⟨a1_8, e1_8, _, w1_8⟩ := DataW.trod_int Try.underlying35 gff1_1_7
  simp at e1_8; subst e1_8
  obtain ⟨zff1_1_8, gff1_1_8⟩ := ff1_1 8 _ rfl
  replace gff1_1_8 : DataW.trod enc Try.prog W 0 (fun _ => true) true mf1_1 35 [c1_9] = some zff1_1_8 := gff1_1_8
  obtain ⟨a1_9, e1_9, _, w1_9⟩ := DataW.trod_int Try.underlying35 gff1_1_8
  simp at e1_9; subst e1_9
  obtain ⟨zff1_1_9, gff1_1_9⟩ := ff1_1 9 _ rfl
  replace gff1_1_9 : DataW.trod enc Try.prog W 0 (fun _ => true) true mf1_1 35 [c1_10] = some zff1_1_9 := gff1_1_9
  obtain ⟨a1_10, e1_10, _, w1_10⟩ := DataW.trod_int Try.underlying35 gff1_1_9
  simp at e1_10; subst e1_10
  obtain ⟨zff1_1_10, gff1_1_10⟩ := ff1_1 10 _ rfl
  replace gff1_1_10 : DataW.trod enc Try.prog W 0 (fun _ => true) true mf1_1 35 [c1_11] = some zff1_1_10 := gff1_1_10
  obtain ⟨a1_11, e1_11, _, w1_11⟩ := DataW.trod_int Try.underlying35 gff1_1_10
  simp at e1_11; subst e1_11
  obtain ⟨zff1_1_11, gff1_1_11⟩ := ff1_1 11 _ rfl
  replace gff1_1_11 : DataW.trod enc Try.prog W 0 (fun _ => true) true mf1_1 35 [c1_12] = some zff1_1_11 := gff1_1_11
  obtain ⟨a1_12, e1_12, _, w1_12⟩ := DataW.trod_int Try.underlying35 gff1_1_11
  simp at e1_12; subst e1_12
  obtain ⟨zf1_2, gf1_2⟩ := f1 2 _ rfl
  replace gf1_2 : DataW.trod enc Try.prog W 0 (fun _ => true) true m1 3 [c1_13] = some zf1_2 := gf1_2
  obtain ⟨a1_13, e1_13, _, w1_13⟩ := DataW.trod_int Try.underlying3 gf1_2
  simp at e1_13; subst e1_13
  obtain ⟨zf1_3, gf1_3⟩ := f1 3 _ rfl
  replace gf1_3 : DataW.trod enc Try.prog W 0 (fun _ => true) true m1 3 [c1_14] = some zf1_3 := gf1_3
  obtain ⟨a1_14, e1_14, _, w1_14⟩ := DataW.trod_int Try.underlying3 gf1_3
  simp at e1_14; subst e1_14
  obtain ⟨zf1_4, gf1_4⟩ := f1 4 _ rfl
  replace gf1_4 : DataW.trod enc Try.prog W 0 (fun _ => true) true m1 35 [c1_15] = some zf1_4 := gf1_4
  obtain ⟨a1_15, e1_15, _, w1_15⟩ := DataW.trod_int Try.underlying35 gf1_4
  simp at e1_15; subst e1_15
  obtain ⟨zf1_5, gf1_5⟩ := f1 5 _ rfl
  replace gf1_5 : DataW.trod enc Try.prog W 0 (fun _ => true) true m1 35 [c1_16] = some zf1_5 := gf1_5
  obtain ⟨a1_16, e1_16, _, w1_16⟩ := DataW.trod_int Try.underlying35 gf1_5
  simp at e1_16; subst e1_16
  obtain ⟨zf1_6, gf1_6⟩ := f1 6 _ rfl
  replace gf1_6 : DataW.trod enc Try.prog W 0 (fun _ => true) true m1 5 [c1_17] = some zf1_6 := gf1_6
  obtain ⟨a1_17, e1_17, _, w1_17⟩ := DataW.trod_int Try.underlying5 gf1_6
  simp at e1_17; subst e1_17
  refine (walk W a0_0 w0_0 A0_1 n0_1 k0_1 mc0_1 cc0_1 el0_1 a1_0 w1_0 a1_1 w1_1 a1_2 w1_2 a1_3 w1_3 a1_4 w1_4 a1_5 w1_5 a1_6 w1_6 a1_7 w1_7 a1_8 w1_8 a1_9 w1_9 a1_10 w1_10 a1_11 w1_11 a1_12 w1_12 a1_13 w1_13 a1_14 w1_14 a1_15 w1_15 a1_16 w1_16 a1_17 w1_17).mono fun e W' ⟨he, bel⟩ => ?_
  subst he
  exact ⟨_, rfl, _, _, _, [], _, [], hW', trodAll_mk1 (shut_bool Try.underlying4 _), (trodAll_cons_mk (Below.trod laidOut (by kernel_rfl) (of_decide_eq_true (by kernel_rfl)) k0 bel lt0) (trodAll_cons_mk (Below.trod laidOut (by kernel_rfl) (of_decide_eq_true (by kernel_rfl)) k1 bel lt1) trodAll_mk0)), rfl, bel.frame _, fun h => by cases h⟩

theorem over : Rows.spaceKeepsRow.holds Try.pinned (OpenSpec.ofChange Rows.spaceKeepsSpec) :=
  OpenClaim.holds_of_wide 10 Try.f10 rfl rfl rfl rfl rfl rfl rfl ⟨rfl, rfl, rfl, rfl, rfl⟩ rfl rfl rfl rfl rfl (by kernel_rfl) Try.func10 (by kernel_rfl)
    (of_decide_eq_true (by kernel_rfl)) (by unfold Func.isWrapper; first | (rw [if_pos (by decide +kernel)]; kernel_rfl) | (rw [if_neg (by decide +kernel)]; exact ⟨rfl, rfl⟩))
    (fun os started H enc _ => lifted os started H enc)

/-- The statement. -/
theorem proved : Rows.SpaceKeepsSaid := over
#print axioms proved

end Go.Proofs.Ythhlmliejppdoaa.spaceKeeps
