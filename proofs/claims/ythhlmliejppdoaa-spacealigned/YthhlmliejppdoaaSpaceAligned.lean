/-
  Proved: for any number of pages, any address, any number, and however many bytes, the law SpaceAligned returns true: without a table an access is of the address itself, is let just if all of its bytes are in memory, and faults at the first that is not; aligned at its own address.
  Conditions: none beyond the statement's own.
-/
import Derived.Test.YthhlmliejppdoaaRows
import Derived.Test.YthhlmliejppdoaaLayO
import Derived.Lib.Hide
import Derived.Deep.Cut
import Derived.Test.YthhlmliejppdoaaSpL
import Derived.Test.YthhlmliejppdoaaSpY
namespace Go.Proofs.Ythhlmliejppdoaa.spaceAligned
open Go Go.ChangeShapes Go.WideShapes Go.ChangeAt Go.RowKit W M D A C P K
set_option linter.unusedVariables false
set_option linter.unusedSimpArgs false

theorem mask_is (v : Int) (hv : 0 ≤ v ∧ v ≤ 18446744073709551615) (k : Nat) (hk : k ≤ 64) : bits .and .u64 v ((2 ^ k - 1 : Nat) : Int) = v % 2 ^ k := by
  obtain ⟨n, rfl⟩ : ∃ n : Nat, v = n := ⟨v.toNat, by omega⟩
  have h8 : (2 : Nat) ^ k ≤ 2 ^ 64 := Nat.pow_le_pow_right (by omega) hk
  have hp : 0 < 2 ^ k := Nat.two_pow_pos k
  show IntKind.u64.wrap (((BitVec.ofInt 64 (n : Int) &&& BitVec.ofInt 64 ((2 ^ k - 1 : Nat) : Int)).toNat : Nat) : Int) = _
  rw [BitVec.toNat_and, BitVec.toNat_ofInt, BitVec.toNat_ofInt, IntKind.wrap_u64]
  rw [show (2 : Nat) ^ 64 = 18446744073709551616 from rfl] at *
  have ex : ((n : Int) % ((18446744073709551616 : Nat) : Int)).toNat = n := by omega
  have em : (((2 ^ k - 1 : Nat) : Int) % ((18446744073709551616 : Nat) : Int)).toNat = 2 ^ k - 1 := by omega
  rw [ex, em, Nat.and_two_pow_sub_one_eq_mod]
  have hl : n % 2 ^ k < 2 ^ k := Nat.mod_lt _ hp
  rw [show ((2 : Int) ^ k) = ((2 ^ k : Nat) : Int) from (Int.natCast_pow 2 k).symm, ← Int.natCast_emod]
  omega
theorem vC0 : vC c0 = .agg #[.int .u64 0, .int .u64 0, .int .u64 0, .int .u64 0, .int .u64 0, .int .u64 0, .int .u64 0, .int .u64 0, .int .u64 0, .int .u64 0, .int .u64 0, .int .u64 0] := rfl
theorem un0 : pagedV (gC c0 9) = false := by kernel_rfl
theorem Store_n {c : Cs} {priv va x : Int} {m : Nat} (hc : C.Good c) (hp : I64 priv) (hv : B64 va) (hx : B64 x) (hm : m = 1 ∨ m = 2 ∨ m = 4 ∨ m = 8) {bs : List Int} {r : S.Ans}
    (hr : S.realsV bs 0 (gC c 9) (gC c 0) priv 2 va m [] 0 = r) (pm gm B : Nat) (w : World) (h : Spc w B pm gm bs none 0 0 []) :
    Calls Try.prog 40 #[.agg #[.pointer (some ⟨pm, 0, none⟩), .pointer none], vC c, .int .i64 priv, .int .u64 va, .int .i64 m, .int .u64 x] w fun e w' => ∃ v, e = .returned (.tuple #[v, .agg #[.bool r.f.isf, .int .i64 r.f.cause, .int .u64 r.f.val]]) ∧ Adr w' v r.all w.heap.size ∧ Spc w' B pm gm (S.storeX bs r.all x) none 0 0 [] ∧ Fr B gm w w' := by
  refine (SStore_c pm gm bs c hc priv va m x hp hv hm hx B none 0 0 [] w h r hr).mono ?_
  rintro e w' ⟨v, rfl, hA, hS, hF⟩
  exact ⟨v, rfl, hA, nil_state hS, hF⟩

set_option maxRecDepth 100000 in
set_option maxHeartbeats 16000000 in
theorem walk (w : World) (a0 : Int) (w0 : (Lit.int .u8 a0).wf = true) (a1_0 : Int) (w1_0 : (Lit.int .u64 a1_0).wf = true) (a1_1 : Int) (w1_1 : (Lit.int .u64 a1_1).wf = true) (a2 : Int) (w2 : (Lit.int .u8 a2).wf = true) :
    Calls Try.prog 11 #[.int .u8 a0, .agg #[.int .u64 a1_0, .int .u64 a1_1], .int .u8 a2] w fun e w' => e = .returned (.bool true) ∧ Below w.heap.size w w' := by
  have hpg : 0 ≤ a0 ∧ a0 ≤ 255 := bounds_u8 w0
  have hva : B64 a1_0 := bounds_u64 w1_0
  have hx : B64 a1_1 := bounds_u64 w1_1
  have hn : 0 ≤ a2 ∧ a2 ≤ 255 := bounds_u8 w2
  obtain ⟨bs, hbs⟩ : ∃ bs, bs = fillV (fun _ => 0) (fun _ => 0) (min 0 64) (List.replicate ((1 + a0 % 4 % 16).toNat * 4096) 0) := ⟨_, rfl⟩
  have BT := Lib.hid (fun W => bothN_c (-1) (by unfold I64; omega) (by omega) (a0 % 4) (by omega) none 0 0 (Nat.le_refl _) (by omega) (fun _ => 0) (fun _ => 0) W (fun i hi => by omega))
  rw [← hbs] at BT
  obtain ⟨m, hm⟩ : ∃ m, m = sizeN a2 := ⟨_, rfl⟩
  have hm4 := sizeN_is a2
  rw [← hm] at hm4
  have SZ := Lib.hid (fun W => size_c a2 hn W)
  rw [← hm] at SZ
  clear hm hbs w0 w1_0 w1_1 w2
  have hm8 : 1 ≤ m ∧ m ≤ 8 := by omega
  have hand := M.and_3 a0 hpg
  obtain ⟨r, hr⟩ : ∃ r, S.realsV bs 0 (gC c0 9) (gC c0 0) 1 2 a1_0 m [] 0 = r := ⟨_, rfl⟩
  have ST := Lib.hid (fun pm gm B W hW => Store_n c0_good (by unfold I64; omega) hva hx hm4 hr pm gm B W hW)
  obtain ⟨r2, hr2⟩ : ∃ r2, S.realsV (S.storeX bs r.all a1_1) 0 (gC c0 9) (gC c0 0) 0 1 a1_0 m [] 0 = r2 := ⟨_, rfl⟩
  obtain ⟨xa, hxa⟩ : ∃ x, S.loadX (S.storeX bs r.all a1_1) r2.all = x := ⟨_, rfl⟩
  have LD := Lib.hid (fun pm gm B W hW => Load_n c0_good (by unfold I64; omega) hva hm4 hr2 hxa pm gm B W hW)
  have HIN := Lib.hid (fun hb hl h1 h2 => S.al_in (bs := bs) hm4 hb hl hva un0 h1 h2 hr)
  have HOUT := Lib.hid (fun hb hl h1 => S.al_out (bs := bs) hm4 hb hl hva un0 h1 hr)
  have HIN2 := Lib.hid (fun hb hl h1 h2 => S.al_in (bs := S.storeX bs r.all a1_1) hm4 hb hl hva un0 h1 h2 hr2)
  have HOUT2 := Lib.hid (fun hb hl h1 => S.al_out (bs := S.storeX bs r.all a1_1) hm4 hb hl hva un0 h1 hr2)
  have HXA := Lib.hid hxa
  have HSL := S.storeX_length r.all bs a1_1
  have HSB := Lib.hid (fun hb => S.storeX_byt r.all (bs := bs) a1_1 hb)
  rw [HSL] at HIN2 HOUT2
  have HSLL := Lib.hid HSL
  rw [vC0] at ST LD
  clear hr hr2 hxa HSL
  obtain ⟨rf, rall, rL, rn⟩ := r
  obtain ⟨gf, gall, gL, gn⟩ := r2
  simp only at ST LD HIN HOUT HIN2 HOUT2 HXA HSB HSLL
  obtain ⟨bs2, hbs2⟩ : ∃ b2, b2 = S.storeX bs rall a1_1 := ⟨_, rfl⟩
  rw [← hbs2] at ST LD HIN2 HOUT2 HXA HSB HSLL
  have HB2 := Lib.hid hbs2
  clear hbs2
  have HT0 := Lib.hid (Row.fresh w 99 [.int .u64 a1_0, .int .u64 a1_1])
  have HG0 := Lib.hid (gr_alloc (gr_refl w none) (.cells #[.int .u64 a1_0, .int .u64 a1_1] 99))
  unfold B64 at hva hx
  go_enter Try.func11, Try.ntmps11
  go_wp2_with fail
  generalize w.alloc (.cells #[.int .u64 a1_0, .int .u64 a1_1] 99) = V at *
  refine (shown13_c _).mono ?_
  rintro e w1 ⟨rfl, hG⟩
  have hT1 := HT0.out.grown hG (by simp)
  have hG1 := gr_trans HG0.out hG
  clear HT0 HG0 hG
  obtain ⟨b, hb⟩ : ∃ b, b = w.heap.size := ⟨_, rfl⟩
  rw [← hb] at hT1 ⊢
  have HB := Lib.hid hb
  clear hb
  have m0 : w1.cell? ⟨b, 0, none⟩ = some (.int .u64 a1_0) := hT1.cell 0
  have m1 : w1.cell? ⟨b, 1, none⟩ = some (.int .u64 a1_1) := hT1.cell 1
  have lt := hT1.lt
  go_wp2_with fail
  refine (BT.out _).mono ?_
  rintro e w2 ⟨pm, gm, p', g', ys, tr, rfl, hA, hgm, hQ, hgg, hY, hTr, hG⟩
  unfold vS vT
  simp only [Option.map_none]
  have hT2 := hT1.grown hG (by simp)
  have hg := gr_alloc (gr_refl w2 none) (.cells #[.pointer (some ⟨pm, 0, none⟩), .pointer none] 73)
  have hN := new2 w2 73 (.pointer (some ⟨pm, 0, none⟩)) (.pointer none)
  have hG2 := gr_trans hG1 hG
  have hL : Lv w 99 b [.int .u64 a1_0, .int .u64 a1_1] w2.heap.size pm gm bs (w2.alloc (.cells #[.pointer (some ⟨pm, 0, none⟩), .pointer none] 73)) := ⟨hT2.grown hg (by simp), hN, ⟨hA.kept hg, by have := hG1.size; omega, rfl, rfl⟩, gr_trans hG2 hg⟩
  replace hQ := hQ.kept hg
  replace hY := hY.grown hg (by simp)
  clear hT1 hT2 hA hgm hTr hG hG1 hG2 hN hg m0 m1 lt BT
  go_upto_region 5 with (fail)
  generalize w2.alloc (.cells #[.pointer (some ⟨pm, 0, none⟩), .pointer none] 73) = W at *
  generalize w2.heap.size = s at *
  have hby := hL.st.mem.byt
  have hln := hL.st.mem.len
  have HBY := Lib.hid (And.intro hby hln)
  clear hby
  go_wp2_with fail
  refine (SZ.out _).mono ?_
  rintro e w3 ⟨rfl, rfl⟩
  have y0 : W.cell? ⟨ys, 0, none⟩ = some (.pointer (some ⟨p', 0, none⟩)) := hY.cell 0
  have y1 := hQ.head
  have yl := hY.lt
  have yl2 := hQ.ptr.lt
  have HL := Lib.hid hL
  clear hL SZ
  go_upto_region 9 with (fail)
  clear y0 y1 yl yl2 hY hQ
  have hcase : (2147483648 ≤ a1_0 ∧ a1_0 < 2147483648 + bs.length ∧ m ≤ 2147483648 + bs.length - a1_0) ∨ a1_0 < 2147483648 ∨ (2147483648 ≤ a1_0 ∧ 2147483648 + bs.length ≤ a1_0) ∨ (2147483648 ≤ a1_0 ∧ a1_0 < 2147483648 + bs.length ∧ 2147483648 + bs.length - a1_0 < m) := by omega
  have hL := HL.out
  clear HL
  rcases hcase with ⟨c1, c2, c3⟩ | hc1 | ⟨c1, hc2⟩ | ⟨c1, c2, hc3⟩
  · obtain ⟨e1, e2⟩ := HIN.out HBY.out.1 HBY.out.2 c1 (by omega)
    obtain ⟨e3, e4⟩ := HIN2.out (HSB.out HBY.out.1) HBY.out.2 c1 (by omega)
    have HE := Lib.hid (And.intro e1 (And.intro e3 e2))
    have hxv : xa = a1_1 % 256 ^ m := by
      rw [← HXA.out, e4, HB2.out, e2]
      exact S.store_load m bs a1_0 a1_1 c1 (by omega)
    have HXV := Lib.hid hxv
    clear e1 e2 e3 e4 hxv
    go_upto_region 10 with (fail)
    have s0 : W.cell? ⟨s, 0, none⟩ = some (.pointer (some ⟨pm, 0, none⟩)) := hL.spa.cell 0
    have s1 : W.cell? ⟨s, 1, none⟩ = some (.pointer none) := hL.spa.cell 1
    have ls := hL.spa.lt
    have HL := Lib.hid hL
    clear hL
    go_wp2_with fail
    refine (ST.out _ _ _ _ HL.out.st).mono ?_
    rintro e u10 ⟨v, rfl, hA, hS, hF⟩
    have hL := HL.out.fr (by decide) (by decide) (by decide) hS hF
    have hg := gr_alloc (gr_refl u10 none) (.cells #[.bool rf.isf, .int .i64 rf.cause, .int .u64 rf.val] 49)
    replace hL := hL.keep hg
    have q10r := newF u10 (.bool rf.isf) (.int .i64 rf.cause) (.int .u64 rf.val)
    obtain ⟨g, rfl, hrow⟩ : ∃ g, v = .slice (some ⟨g, 0, none⟩) m m ∧ Row u10 g 35 (wrds (S.rowP a1_0 m)) := by
      rcases hA with ⟨h, -⟩ | ⟨g, h1, h2, -⟩
      · exfalso
        have := congrArg List.length (h.symm.trans HE.out.2.2)
        rw [S.rowP_length] at this
        simp at this
        omega
      · simp only [HE.out.2.2, S.rowP_length] at h1 h2
        exact ⟨g, h1, h2⟩
    replace hrow := hrow.grown hg (by simp)
    clear hg HL hS hF s0 s1 ls hA
    go_upto_region 11 with (fail)
    generalize u10.alloc (.cells #[.bool rf.isf, .int .i64 rf.cause, .int .u64 rf.val] 49) = W10 at *
    generalize u10.heap.size = q10 at *
    have s0 : W10.cell? ⟨s, 0, none⟩ = some (.pointer (some ⟨pm, 0, none⟩)) := hL.spa.cell 0
    have s1 : W10.cell? ⟨s, 1, none⟩ = some (.pointer none) := hL.spa.cell 1
    have ls := hL.spa.lt
    have HL := Lib.hid hL
    clear hL
    go_wp2_with fail
    refine (LD.out _ _ _ _ HL.out.st).mono ?_
    rintro e u11 ⟨rfl, hS, hF⟩
    have hL := HL.out.fr (by decide) (by decide) (by decide) hS hF
    have hg := gr_alloc (gr_refl u11 none) (.cells #[.bool gf.isf, .int .i64 gf.cause, .int .u64 gf.val] 49)
    replace q10r := (HL.out.own hF q10r (by decide) (by decide) (by decide)).grown hg (by simp)
    have q11r := newF u11 (.bool gf.isf) (.int .i64 gf.cause) (.int .u64 gf.val)
    replace hrow := (HL.out.own hF hrow (by decide) (by decide) (by decide)).grown hg (by simp)
    have HGR := Lib.hid (gr_below (gr_trans hL.gr hg))
    clear hL hg HL hS hF s0 s1 ls
    go_upto_region 12 with (fail)
    generalize u11.alloc (.cells #[.bool gf.isf, .int .i64 gf.cause, .int .u64 gf.val] 49) = W11 at *
    generalize u11.heap.size = q11 at *
    obtain ⟨⟨i0, i1, i2⟩, -, li⟩ := fault_free q10r
    obtain ⟨⟨j0, j1, j2⟩, -, lj⟩ := fault_free q11r
    clear q10r q11r ST LD
    rw [HE.out.1] at i0
    rw [HE.out.2.1] at j0
    have hxv := HXV.out
    have h0 : W11.cell? ⟨g, 0, none⟩ = some (.int .u64 a1_0) := by
      rw [hrow.cell]
      obtain ⟨k, rfl⟩ : ∃ k, m = k + 1 := ⟨m - 1, by omega⟩
      rw [S.rowP_succ]
      rfl
    have lr := hrow.lt
    clear hrow HE HXV HIN HOUT HIN2 HOUT2 HXA HSB HSLL HB2
    rcases hm4 with rfl | rfl | rfl | rfl
    · have hmk : bits .and .u64 a1_1 255 = a1_1 % 256 := mask_is a1_1 hx 8 (by omega)
      have hxv : xa = a1_1 % 256 := hxv
      subst hxv
      go_wp2_with fail
      go_ret
      exact ⟨rfl, HGR.out⟩
    · have hmk : bits .and .u64 a1_1 65535 = a1_1 % 65536 := mask_is a1_1 hx 16 (by omega)
      have hxv : xa = a1_1 % 65536 := hxv
      subst hxv
      go_wp2_with fail
      go_ret
      exact ⟨rfl, HGR.out⟩
    · have hmk : bits .and .u64 a1_1 4294967295 = a1_1 % 4294967296 := mask_is a1_1 hx 32 (by omega)
      have hxv : xa = a1_1 % 4294967296 := hxv
      subst hxv
      go_wp2_with fail
      go_ret
      exact ⟨rfl, HGR.out⟩
    · have hmk : bits .and .u64 a1_1 18446744073709551615 = a1_1 % 18446744073709551616 := mask_is a1_1 hx 64 (by omega)
      have hxv : xa = a1_1 % 18446744073709551616 := hxv
      subst hxv
      go_wp2_with fail
      go_ret
      refine ⟨?_, HGR.out⟩
      have e : a1_1 % 18446744073709551616 = a1_1 := by omega
      have hwm : IntKind.u64.wrap (IntKind.u64.wrap 18446744073709551616 - 1) = 18446744073709551615 := by kernel_rfl
      simp [hwm, hmk, e]
  · obtain ⟨e1, e2, e3, e4⟩ := HOUT.out HBY.out.1 HBY.out.2 (by omega)
    obtain ⟨f1, f2, f3, f4⟩ := HOUT2.out (HSB.out HBY.out.1) HBY.out.2 (by omega)
    have hd1 : decide (2147483648 ≤ a1_0) = false := by simp; omega
    have HE := Lib.hid (And.intro (And.intro e1 (And.intro e2 e3)) (And.intro f1 (And.intro f2 f3)))
    clear e1 e2 e3 e4 f1 f2 f3 f4
    go_upto_region 10 with (fail)
    have s0 : W.cell? ⟨s, 0, none⟩ = some (.pointer (some ⟨pm, 0, none⟩)) := hL.spa.cell 0
    have s1 : W.cell? ⟨s, 1, none⟩ = some (.pointer none) := hL.spa.cell 1
    have ls := hL.spa.lt
    have HL := Lib.hid hL
    clear hL
    go_wp2_with fail
    refine (ST.out _ _ _ _ HL.out.st).mono ?_
    rintro e u10 ⟨v, rfl, hA, hS, hF⟩
    have hL := HL.out.fr (by decide) (by decide) (by decide) hS hF
    have hg := gr_alloc (gr_refl u10 none) (.cells #[.bool rf.isf, .int .i64 rf.cause, .int .u64 rf.val] 49)
    replace hL := hL.keep hg
    have q10r := newF u10 (.bool rf.isf) (.int .i64 rf.cause) (.int .u64 rf.val)
    clear hg HL hS hF s0 s1 ls hA
    go_upto_region 11 with (fail)
    generalize u10.alloc (.cells #[.bool rf.isf, .int .i64 rf.cause, .int .u64 rf.val] 49) = W10 at *
    generalize u10.heap.size = q10 at *
    have s0 : W10.cell? ⟨s, 0, none⟩ = some (.pointer (some ⟨pm, 0, none⟩)) := hL.spa.cell 0
    have s1 : W10.cell? ⟨s, 1, none⟩ = some (.pointer none) := hL.spa.cell 1
    have ls := hL.spa.lt
    have HL := Lib.hid hL
    clear hL
    go_wp2_with fail
    refine (LD.out _ _ _ _ HL.out.st).mono ?_
    rintro e u11 ⟨rfl, hS, hF⟩
    have hL := HL.out.fr (by decide) (by decide) (by decide) hS hF
    have hg := gr_alloc (gr_refl u11 none) (.cells #[.bool gf.isf, .int .i64 gf.cause, .int .u64 gf.val] 49)
    replace q10r := (HL.out.own hF q10r (by decide) (by decide) (by decide)).grown hg (by simp)
    have q11r := newF u11 (.bool gf.isf) (.int .i64 gf.cause) (.int .u64 gf.val)
    have HGR := Lib.hid (gr_below (gr_trans hL.gr hg))
    clear hL hg HL hS hF s0 s1 ls
    go_upto_region 12 with (fail)
    generalize u11.alloc (.cells #[.bool gf.isf, .int .i64 gf.cause, .int .u64 gf.val] 49) = W11 at *
    generalize u11.heap.size = q11 at *
    obtain ⟨⟨i0, i1, i2⟩, -, li⟩ := fault_free q10r
    obtain ⟨⟨j0, j1, j2⟩, -, lj⟩ := fault_free q11r
    clear q10r q11r ST LD
    obtain ⟨⟨e1, e2, e3⟩, f1, f2, f3⟩ := HE.out
    rw [e1] at i0
    rw [f1] at j0
    rw [show rf.cause = 7 from e2] at i1
    rw [show gf.cause = 5 from f2] at j1
    rw [e3] at i2
    rw [f3] at j2
    have HFV := Lib.hid (show S.firstV bs.length a1_0 m = S.firstV bs.length a1_0 m from rfl)
    obtain ⟨fv, hfv⟩ : ∃ fv, fv = S.firstV bs.length a1_0 m := ⟨_, rfl⟩
    rw [← hfv] at i2 j2
    unfold S.firstV at hfv
    clear e1 e2 e3 f1 f2 f3 HE HIN HOUT HIN2 HOUT2 HXA HSB HSLL HB2 HFV
    by_cases hal : a1_0 % m = 0
    · rw [if_neg (by simp [hal])] at hfv
      subst hfv
      go_wp2_with fail
      go_loop [21] (fun x => x = .int .u64 fv) (fun x => 0)
      case atStart => exact rfl
      case round =>
        obtain rfl := hrel
        go_wp2_with fail
        go_ret
        exact ⟨rfl, HGR.out⟩
    · have hnal : (a1_0 % m == 0) = false := by simpa using hal
      rw [if_neg (by omega)] at hfv
      subst hfv
      go_wp2_with fail
      go_loop [21] (fun x => x = .int .u64 fv) (fun x => 0)
      case atStart => exact rfl
      case round =>
        obtain rfl := hrel
        go_wp2_with fail
        go_ret
        exact ⟨rfl, HGR.out⟩
  · obtain ⟨e1, e2, e3, e4⟩ := HOUT.out HBY.out.1 HBY.out.2 (by omega)
    obtain ⟨f1, f2, f3, f4⟩ := HOUT2.out (HSB.out HBY.out.1) HBY.out.2 (by omega)
    have hd1 : decide (2147483648 ≤ a1_0) = true := by simp; omega
    have hd2 : decide (a1_0 < 2147483648 + (bs.length : Int)) = false := by simp; omega
    have HE := Lib.hid (And.intro (And.intro e1 (And.intro e2 e3)) (And.intro f1 (And.intro f2 f3)))
    clear e1 e2 e3 e4 f1 f2 f3 f4
    go_upto_region 10 with (fail)
    have s0 : W.cell? ⟨s, 0, none⟩ = some (.pointer (some ⟨pm, 0, none⟩)) := hL.spa.cell 0
    have s1 : W.cell? ⟨s, 1, none⟩ = some (.pointer none) := hL.spa.cell 1
    have ls := hL.spa.lt
    have HL := Lib.hid hL
    clear hL
    go_wp2_with fail
    refine (ST.out _ _ _ _ HL.out.st).mono ?_
    rintro e u10 ⟨v, rfl, hA, hS, hF⟩
    have hL := HL.out.fr (by decide) (by decide) (by decide) hS hF
    have hg := gr_alloc (gr_refl u10 none) (.cells #[.bool rf.isf, .int .i64 rf.cause, .int .u64 rf.val] 49)
    replace hL := hL.keep hg
    have q10r := newF u10 (.bool rf.isf) (.int .i64 rf.cause) (.int .u64 rf.val)
    clear hg HL hS hF s0 s1 ls hA
    go_upto_region 11 with (fail)
    generalize u10.alloc (.cells #[.bool rf.isf, .int .i64 rf.cause, .int .u64 rf.val] 49) = W10 at *
    generalize u10.heap.size = q10 at *
    have s0 : W10.cell? ⟨s, 0, none⟩ = some (.pointer (some ⟨pm, 0, none⟩)) := hL.spa.cell 0
    have s1 : W10.cell? ⟨s, 1, none⟩ = some (.pointer none) := hL.spa.cell 1
    have ls := hL.spa.lt
    have HL := Lib.hid hL
    clear hL
    go_wp2_with fail
    refine (LD.out _ _ _ _ HL.out.st).mono ?_
    rintro e u11 ⟨rfl, hS, hF⟩
    have hL := HL.out.fr (by decide) (by decide) (by decide) hS hF
    have hg := gr_alloc (gr_refl u11 none) (.cells #[.bool gf.isf, .int .i64 gf.cause, .int .u64 gf.val] 49)
    replace q10r := (HL.out.own hF q10r (by decide) (by decide) (by decide)).grown hg (by simp)
    have q11r := newF u11 (.bool gf.isf) (.int .i64 gf.cause) (.int .u64 gf.val)
    have HGR := Lib.hid (gr_below (gr_trans hL.gr hg))
    clear hL hg HL hS hF s0 s1 ls
    go_upto_region 12 with (fail)
    generalize u11.alloc (.cells #[.bool gf.isf, .int .i64 gf.cause, .int .u64 gf.val] 49) = W11 at *
    generalize u11.heap.size = q11 at *
    obtain ⟨⟨i0, i1, i2⟩, -, li⟩ := fault_free q10r
    obtain ⟨⟨j0, j1, j2⟩, -, lj⟩ := fault_free q11r
    clear q10r q11r ST LD
    obtain ⟨⟨e1, e2, e3⟩, f1, f2, f3⟩ := HE.out
    rw [e1] at i0
    rw [f1] at j0
    rw [show rf.cause = 7 from e2] at i1
    rw [show gf.cause = 5 from f2] at j1
    rw [e3] at i2
    rw [f3] at j2
    have HFV := Lib.hid (show S.firstV bs.length a1_0 m = S.firstV bs.length a1_0 m from rfl)
    obtain ⟨fv, hfv⟩ : ∃ fv, fv = S.firstV bs.length a1_0 m := ⟨_, rfl⟩
    rw [← hfv] at i2 j2
    unfold S.firstV at hfv
    clear e1 e2 e3 f1 f2 f3 HE HIN HOUT HIN2 HOUT2 HXA HSB HSLL HB2 HFV
    by_cases hal : a1_0 % m = 0
    · rw [if_neg (by simp [hal])] at hfv
      subst hfv
      go_wp2_with fail
      go_loop [21] (fun x => x = .int .u64 fv) (fun x => 0)
      case atStart => exact rfl
      case round =>
        obtain rfl := hrel
        go_wp2_with fail
        go_ret
        exact ⟨rfl, HGR.out⟩
    · have hnal : (a1_0 % m == 0) = false := by simpa using hal
      rw [if_neg (by omega)] at hfv
      subst hfv
      go_wp2_with fail
      go_loop [21] (fun x => x = .int .u64 fv) (fun x => 0)
      case atStart => exact rfl
      case round =>
        obtain rfl := hrel
        go_wp2_with fail
        go_ret
        exact ⟨rfl, HGR.out⟩
  · obtain ⟨e1, e2, e3, e4⟩ := HOUT.out HBY.out.1 HBY.out.2 (by omega)
    obtain ⟨f1, f2, f3, f4⟩ := HOUT2.out (HSB.out HBY.out.1) HBY.out.2 (by omega)
    have hd1 : decide (2147483648 ≤ a1_0) = true := by simp; omega
    have hd2 : decide (a1_0 < 2147483648 + (bs.length : Int)) = true := by simp; omega
    have hd3 : decide ((m : Int) ≤ 2147483648 + (bs.length : Int) - a1_0) = false := by simp; omega
    have HE := Lib.hid (And.intro (And.intro e1 (And.intro e2 e3)) (And.intro f1 (And.intro f2 f3)))
    clear e1 e2 e3 e4 f1 f2 f3 f4
    go_upto_region 10 with (fail)
    have s0 : W.cell? ⟨s, 0, none⟩ = some (.pointer (some ⟨pm, 0, none⟩)) := hL.spa.cell 0
    have s1 : W.cell? ⟨s, 1, none⟩ = some (.pointer none) := hL.spa.cell 1
    have ls := hL.spa.lt
    have HL := Lib.hid hL
    clear hL
    go_wp2_with fail
    refine (ST.out _ _ _ _ HL.out.st).mono ?_
    rintro e u10 ⟨v, rfl, hA, hS, hF⟩
    have hL := HL.out.fr (by decide) (by decide) (by decide) hS hF
    have hg := gr_alloc (gr_refl u10 none) (.cells #[.bool rf.isf, .int .i64 rf.cause, .int .u64 rf.val] 49)
    replace hL := hL.keep hg
    have q10r := newF u10 (.bool rf.isf) (.int .i64 rf.cause) (.int .u64 rf.val)
    clear hg HL hS hF s0 s1 ls hA
    go_upto_region 11 with (fail)
    generalize u10.alloc (.cells #[.bool rf.isf, .int .i64 rf.cause, .int .u64 rf.val] 49) = W10 at *
    generalize u10.heap.size = q10 at *
    have s0 : W10.cell? ⟨s, 0, none⟩ = some (.pointer (some ⟨pm, 0, none⟩)) := hL.spa.cell 0
    have s1 : W10.cell? ⟨s, 1, none⟩ = some (.pointer none) := hL.spa.cell 1
    have ls := hL.spa.lt
    have HL := Lib.hid hL
    clear hL
    go_wp2_with fail
    refine (LD.out _ _ _ _ HL.out.st).mono ?_
    rintro e u11 ⟨rfl, hS, hF⟩
    have hL := HL.out.fr (by decide) (by decide) (by decide) hS hF
    have hg := gr_alloc (gr_refl u11 none) (.cells #[.bool gf.isf, .int .i64 gf.cause, .int .u64 gf.val] 49)
    replace q10r := (HL.out.own hF q10r (by decide) (by decide) (by decide)).grown hg (by simp)
    have q11r := newF u11 (.bool gf.isf) (.int .i64 gf.cause) (.int .u64 gf.val)
    have HGR := Lib.hid (gr_below (gr_trans hL.gr hg))
    clear hL hg HL hS hF s0 s1 ls
    go_upto_region 12 with (fail)
    generalize u11.alloc (.cells #[.bool gf.isf, .int .i64 gf.cause, .int .u64 gf.val] 49) = W11 at *
    generalize u11.heap.size = q11 at *
    obtain ⟨⟨i0, i1, i2⟩, -, li⟩ := fault_free q10r
    obtain ⟨⟨j0, j1, j2⟩, -, lj⟩ := fault_free q11r
    clear q10r q11r ST LD
    obtain ⟨⟨e1, e2, e3⟩, f1, f2, f3⟩ := HE.out
    rw [e1] at i0
    rw [f1] at j0
    rw [show rf.cause = 7 from e2] at i1
    rw [show gf.cause = 5 from f2] at j1
    rw [e3] at i2
    rw [f3] at j2
    have HFV := Lib.hid (show S.firstV bs.length a1_0 m = S.firstV bs.length a1_0 m from rfl)
    obtain ⟨fv, hfv⟩ : ∃ fv, fv = S.firstV bs.length a1_0 m := ⟨_, rfl⟩
    rw [← hfv] at i2 j2
    unfold S.firstV at hfv
    clear e1 e2 e3 f1 f2 f3 HE HIN HOUT HIN2 HOUT2 HXA HSB HSLL HB2 HFV
    by_cases hal : a1_0 % m = 0
    · rw [if_neg (by simp [hal])] at hfv
      subst hfv
      go_wp2_with fail
      go_loop [21] (fun x => x = .int .u64 fv) (fun x => 0)
      case atStart => exact rfl
      case round =>
        obtain rfl := hrel
        go_wp2_with fail
        go_ret
        exact ⟨rfl, HGR.out⟩
    · have hnal : (a1_0 % m == 0) = false := by simpa using hal
      rw [if_pos ⟨hal, c1, c2⟩] at hfv
      have HFV := Lib.hid hfv
      clear hfv
      go_wp2_with fail
      go_loop [21] (fun x => ∃ j : Nat, x = .int .u64 (a1_0 + j) ∧ a1_0 + j ≤ 2147483648 + bs.length) (fun x => (2147483648 + bs.length - intOf x).toNat)
      case atStart => exact ⟨0, by simp, by omega⟩
      case round =>
        obtain ⟨j, rfl, hj⟩ := hrel
        by_cases hlt : a1_0 + j < 2147483648 + bs.length
        · have hd4 : 2147483648 ≤ a1_0 + (j : Int) := by omega
          go_wp2_with fail
          go_round
          case rel => exact ⟨j + 1, by go_num, by omega⟩
          case measure => simp [intOf]; omega
        · have hje : a1_0 + (j : Int) = fv := by rw [HFV.out]; omega
          have hd4 : 2147483648 ≤ fv := by omega
          have hd5 : decide (fv < 2147483648 + (bs.length : Int)) = false := by simp; omega
          rw [hje]
          clear hje hj hlt
          go_wp2_with fail
          go_ret
          exact ⟨rfl, HGR.out⟩

theorem own : ownKnob Try.prog.godebug = none := by kernel_rfl
theorem laidOut : laidOutB Try.prog = true := by kernel_rfl

set_option maxRecDepth 100000 in
theorem lifted (os : Os) (started : os.Started) (H : Type) (enc : TypeId × Value → H) :
    ReturnsInHanded {} Try.checked os 11 .any (Rows.spaceAlignedSpec.pre6 enc Try.prog Try.f11 Rows.spaceAlignedRow.domain false) (Rows.spaceAlignedSpec.post enc Try.prog Try.f11 false true false false) := by
  refine returnsInHanded_of_change (C := Try.checked) own started (by kernel_rfl) Try.func11
    (ChangeSpec.witness6 (enc := enc) (C := Try.checked) false ⟨#[], #[.int .u8 0, .agg #[.int .u64 0, .int .u64 0], .int .u8 0], []⟩ 8 (by kernel_rfl) (by kernel_rfl) (by kernel_rfl) (by kernel_rfl)) ?_
  intro W base args ds gs before hval0 hW hcnd _
  have hval : ∀ (j : Nat) t v, Try.f11.params[j]? = some t → args[j]? = some v → Value.okWide Try.prog W .any base t v := hval0
  have hW' := hW
  obtain ⟨p, q, hA0, hV, rfl, hfz, hnd⟩ := hW
  have hA : DataW.TrodAll enc Try.prog W 0 (fun _ => true) true Try.f11.params.toList args.toList ds p := hA0
  rw [Try.params11] at hA hval
  obtain ⟨v0, vs0, d0, ds0, p0, q0, hargs, rfl, rfl, h0, r0⟩ := trodAll_cons hA
  obtain ⟨v1, vs1, d1, ds1, p1, q1, rfl, rfl, rfl, h1, r1⟩ := trodAll_cons r0
  obtain ⟨v2, vs2, d2, ds2, p2, q2, rfl, rfl, rfl, h2, r2⟩ := trodAll_cons r1
  obtain ⟨rfl, rfl, rfl⟩ := trodAll_nil r2
  obtain rfl : args = #[v0, v1, v2] := by cases args; simp_all
  obtain ⟨rfl, rfl⟩ := trodVars_none hV
  clear hA0 hval0 hA
  have k0 := h0
  have lt0 : ∀ x ∈ p0, x.block < W.heap.size := by obtain ⟨m, hm⟩ := k0; exact DataW.trod_lt m _ _ _ hm
  obtain ⟨a0, rfl, rfl, rfl, w0⟩ := open_int Try.underlying5 (hval 0 5 v0 rfl rfl) h0
  have k1 := h1
  have lt1 : ∀ x ∈ p1, x.block < W.heap.size := by obtain ⟨m, hm⟩ := k1; exact DataW.trod_lt m _ _ _ hm
  obtain ⟨xs1, rfl, l1, m1, f1⟩ := Op.open_struct Try.underlying99 (hval 1 99 v1 rfl rfl) h1
  rw [show Try.prog.cellsOf 99 = 2 from by kernel_rfl] at l1
  obtain _ | ⟨c1_0, xs1⟩ := xs1
  · simp at l1
  obtain _ | ⟨c1_1, xs1⟩ := xs1
  · simp at l1
  obtain _ | ⟨_, _⟩ := xs1
  rotate_left
  · simp at l1
  clear h1
  obtain ⟨y1_0, g1_0⟩ := f1 0 _ rfl
  replace g1_0 : DataW.trod enc Try.prog W 0 (fun _ => true) true m1 35 [c1_0] = some y1_0 := g1_0
  obtain ⟨a1_0, e1_0, _, w1_0⟩ := DataW.trod_int Try.underlying35 g1_0
  simp at e1_0; subst e1_0
  obtain ⟨y1_1, g1_1⟩ := f1 1 _ rfl
  replace g1_1 : DataW.trod enc Try.prog W 0 (fun _ => true) true m1 35 [c1_1] = some y1_1 := g1_1
  obtain ⟨a1_1, e1_1, _, w1_1⟩ := DataW.trod_int Try.underlying35 g1_1
  simp at e1_1; subst e1_1
  have k2 := h2
  have lt2 : ∀ x ∈ p2, x.block < W.heap.size := by obtain ⟨m, hm⟩ := k2; exact DataW.trod_lt m _ _ _ hm
  obtain ⟨a2, rfl, rfl, rfl, w2⟩ := open_int Try.underlying5 (hval 2 5 v2 rfl rfl) h2
  refine (walk W a0 w0 a1_0 w1_0 a1_1 w1_1 a2 w2).mono fun e W' ⟨he, bel⟩ => ?_
  subst he
  exact ⟨_, rfl, _, _, _, [], _, [], hW', trodAll_mk1 (shut_bool Try.underlying4 _), (trodAll_cons_mk (Below.trod laidOut (by kernel_rfl) (of_decide_eq_true (by kernel_rfl)) k0 bel lt0) (trodAll_cons_mk (Below.trod laidOut (by kernel_rfl) (of_decide_eq_true (by kernel_rfl)) k1 bel lt1) (trodAll_cons_mk (Below.trod laidOut (by kernel_rfl) (of_decide_eq_true (by kernel_rfl)) k2 bel lt2) trodAll_mk0))), rfl, bel.frame _, fun h => by cases h⟩

theorem over : Rows.spaceAlignedRow.holds Try.pinned (OpenSpec.ofChange Rows.spaceAlignedSpec) :=
  OpenClaim.holds_of_wide 11 Try.f11 rfl rfl rfl rfl rfl rfl rfl ⟨rfl, rfl, rfl, rfl, rfl⟩ rfl rfl rfl rfl rfl (by kernel_rfl) Try.func11 (by kernel_rfl)
    (of_decide_eq_true (by kernel_rfl)) (by unfold Func.isWrapper; first | (rw [if_pos (by decide +kernel)]; kernel_rfl) | (rw [if_neg (by decide +kernel)]; exact ⟨rfl, rfl⟩))
    (fun os started H enc _ => lifted os started H enc)

/-- The statement. -/
theorem proved : Rows.SpaceAlignedSaid := over
#print axioms proved

end Go.Proofs.Ythhlmliejppdoaa.spaceAligned
