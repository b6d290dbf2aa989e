/-
  Stores (space.Store): a contract over the program's translation.
  Conditions: the arguments are numbers of their kinds; the space stands; of 1, 2, 4 or 8 bytes.
-/
import Derived.Test.YthhlmliejppdoaaSpH
import Derived.StillTailTactics
namespace Go.Proofs.Ythhlmliejppdoaa
open Go Go.RowKit W M D A C P K
set_option linter.unusedVariables false

theorem Sip.wrote {w wr ws : World} {b pm gm : Nat} {bs bs' : List Int} {c : Cs} {B : Nat} {t : Option Nat} {most : Nat} {n : Int} {L : List T.Lf} (h : Sip w b pm gm bs c B t most n L wr) (hg : wr.grownBy ws (some gm)) (hm : RAt ws pm gm bs') : Sip w b pm gm bs' c B t most n L ws :=
  ⟨h.spa.grown hg (some_ne (h.spa.apart h.st.mem.row (by decide))), h.csr.grown hg (some_ne (h.csr.apart h.st.mem.row (by decide))), h.flt.grown hg (some_ne (h.flt.apart h.st.mem.row (by decide))), h.st.wrote hg hm, h.fr.trans (Fr.of_mem hg h.st.own), h.sz⟩
theorem i64_in {x : Int} (h : -9223372036854775808 ≤ x ∧ x ≤ 9223372036854775807) : IntKind.i64.wrap x = x := by
  rw [IntKind.wrap_i64]; omega
theorem drop_cons {all : List Int} {k : Nat} (h : k < all.length) : all.drop k = all.getD k 0 :: all.drop (k + 1) := by
  rw [List.drop_eq_getElem_cons h]
  simp [List.getD, List.getElem?_eq_getElem h]
theorem shr_8 (x : Int) (k : Nat) : x / 2 ^ (8 * k) = x / 256 ^ k := by rw [pow_8]
theorem div_64 {x : Int} (hx : 0 ≤ x ∧ x ≤ 18446744073709551615) (k : Nat) : 0 ≤ x / 256 ^ k ∧ x / 256 ^ k ≤ 18446744073709551615 := by
  have hp := p256 k
  exact ⟨Int.ediv_nonneg hx.1 (by omega), by have := Int.ediv_le_self (256 ^ k) hx.1; omega⟩
set_option maxRecDepth 100000 in
set_option maxHeartbeats 4000000 in
theorem SStore_c (pm gm : Nat) (bs : List Int) (c : Cs) (hc : C.Good c) (priv va : Int) (m : Nat) (x : Int) (hp : I64 priv) (hv : B64 va) (hm : m = 1 ∨ m = 2 ∨ m = 4 ∨ m = 8) (hx : B64 x) (B : Nat) (t : Option Nat) (most : Nat) (n : Int) (L : List T.Lf) (w : World) (h : Spc w B pm gm bs t most n L) (r : S.Ans) (hr : S.realsV bs most (gC c 9) (gC c 0) priv 2 va m L n = r) :
    Calls Try.prog 40 #[vS pm t, vC c, .int .i64 priv, .int .u64 va, .int .i64 m, .int .u64 x] w fun e w' => ∃ v, e = .returned (.tuple #[v, vF r.f]) ∧ Adr w' v r.all w.heap.size ∧ Spc w' B pm gm (S.storeX bs r.all x) t most r.n r.L ∧ Fr B gm w w' := by
  have RE := Lib.hid (fun W hW => reals_c pm gm bs c hc priv 2 va m hp (by unfold I64; omega) hv hm B t most n L W hW)
  rw [hr] at RE
  have HF0 := Lib.hid (Sip.start (c := c) w h)
  have PT := Lib.hid (fun bs a y W hW ha hy => Put_c pm gm bs a 1 y W hW ha (by omega) hy)
  have hxx : 0 ≤ x ∧ x ≤ 18446744073709551615 := hx
  obtain ⟨⟨pt, lv, gb, isf, ca, vl⟩, all, L', n'⟩ := r
  unfold Gave at RE
  simp only at RE ⊢
  unfold vF vFault at RE ⊢
  simp only at RE ⊢
  rw [vS_eq] at RE ⊢
  obtain ⟨a0, a1, a2, a3, a4, a5, a6, a7, a8, a9, a10, a11, rfl⟩ := twelve hc.1
  rw [show vC [a0, a1, a2, a3, a4, a5, a6, a7, a8, a9, a10, a11] = .agg #[.int .u64 a0, .int .u64 a1, .int .u64 a2, .int .u64 a3, .int .u64 a4, .int .u64 a5, .int .u64 a6, .int .u64 a7, .int .u64 a8, .int .u64 a9, .int .u64 a10, .int .u64 a11] from rfl] at *
  clear hc h hr hx
  unfold I64 at hp
  unfold B64 at hv
  go_enter Try.func40, Try.ntmps40
  go_upto_region 1 with (fail)
  have hF := HF0.out
  clear HF0
  rw [vT_eq] at hF
  unfold lC lFault at hF
  simp only [List.map_cons, List.map_nil] at hF
  have hF : Sip w w.heap.size pm gm bs [a0, a1, a2, a3, a4, a5, a6, a7, a8, a9, a10, a11] B t most n L (((w.alloc (.cells #[.pointer (some ⟨pm, 0, none⟩), .pointer (vP t)] 73)).alloc (.cells #[.int .u64 a0, .int .u64 a1, .int .u64 a2, .int .u64 a3, .int .u64 a4, .int .u64 a5, .int .u64 a6, .int .u64 a7, .int .u64 a8, .int .u64 a9, .int .u64 a10, .int .u64 a11] 39)).alloc (.cells #[.bool false, .int .i64 0, .int .u64 0] 49)) := hF
  generalize (((w.alloc (.cells #[.pointer (some ⟨pm, 0, none⟩), .pointer (vP t)] 73)).alloc (.cells #[.int .u64 a0, .int .u64 a1, .int .u64 a2, .int .u64 a3, .int .u64 a4, .int .u64 a5, .int .u64 a6, .int .u64 a7, .int .u64 a8, .int .u64 a9, .int .u64 a10, .int .u64 a11] 39)).alloc (.cells #[.bool false, .int .i64 0, .int .u64 0] 49)) = V at *
  generalize hbb : w.heap.size = b at *
  have HBB := Lib.hid hbb
  have k0 : V.cell? ⟨b + 1, 0, none⟩ = some (.int .u64 a0) := hF.csr.cell 0
  have k1 : V.cell? ⟨b + 1, 1, none⟩ = some (.int .u64 a1) := hF.csr.cell 1
  have k2 : V.cell? ⟨b + 1, 2, none⟩ = some (.int .u64 a2) := hF.csr.cell 2
  have k3 : V.cell? ⟨b + 1, 3, none⟩ = some (.int .u64 a3) := hF.csr.cell 3
  have k4 : V.cell? ⟨b + 1, 4, none⟩ = some (.int .u64 a4) := hF.csr.cell 4
  have k5 : V.cell? ⟨b + 1, 5, none⟩ = some (.int .u64 a5) := hF.csr.cell 5
  have k6 : V.cell? ⟨b + 1, 6, none⟩ = some (.int .u64 a6) := hF.csr.cell 6
  have k7 : V.cell? ⟨b + 1, 7, none⟩ = some (.int .u64 a7) := hF.csr.cell 7
  have k8 : V.cell? ⟨b + 1, 8, none⟩ = some (.int .u64 a8) := hF.csr.cell 8
  have k9 : V.cell? ⟨b + 1, 9, none⟩ = some (.int .u64 a9) := hF.csr.cell 9
  have k10 : V.cell? ⟨b + 1, 10, none⟩ = some (.int .u64 a10) := hF.csr.cell 10
  have k11 : V.cell? ⟨b + 1, 11, none⟩ = some (.int .u64 a11) := hF.csr.cell 11
  have p0 : V.cell? ⟨b, 0, none⟩ = some (.pointer (some ⟨pm, 0, none⟩)) := hF.spa.cell 0
  have p1 : V.cell? ⟨b, 1, none⟩ = some (.pointer (vP t)) := hF.spa.cell 1
  have ltb := hF.csr.lt
  have HF := Lib.hid hF
  clear hF hbb
  obtain ⟨o, ho⟩ : ∃ o, vP t = o := ⟨_, rfl⟩
  rw [ho] at RE p1 ⊢
  clear ho
  go_wp2_with fail
  refine (RE.out _ HF.out.st).mono ?_
  rintro e w1 ⟨v, rfl, hA, hS, hFr⟩
  have hF1 := HF.out.turn hS hFr
  have hle := HF.out.flt.lt
  have q1 := Row.fresh w1 49 [.bool isf, .int .i64 ca, .int .u64 vl]
  have hg := gr_alloc (gr_refl w1 none) (.cells #[.bool isf, .int .i64 ca, .int .u64 vl] 49)
  have hF2 := hF1.keep hg
  have lt1 := hF1.flt.lt
  replace hA : Adr (w1.alloc (.cells #[.bool isf, .int .i64 ca, .int .u64 vl] 49)) v all V.heap.size := by
    rcases hA with hA | ⟨g, h1, h2, h3⟩
    · exact .inl hA
    · exact .inr ⟨g, h1, h2.grown hg (by simp), h3⟩
  clear HF hS hFr k0 k1 k2 k3 k4 k5 k6 k7 k8 k9 k10 k11 p0 p1 ltb RE hF1 hg
  go_upto_region 2 with (fail)
  replace q1 : Row (w1.alloc (.cells #[.bool isf, .int .i64 ca, .int .u64 vl] 49)) w1.heap.size 49 [.bool isf, .int .i64 ca, .int .u64 vl] := q1
  generalize w1.alloc (.cells #[.bool isf, .int .i64 ca, .int .u64 vl] 49) = U at *
  generalize w1.heap.size = q at *
  rcases hA with ⟨rfl, rfl⟩ | ⟨g, rfl, hR, hgl, h64, h8⟩
  · obtain ⟨⟨l0, l1, l2⟩, -, lq⟩ := fault_free q1
    obtain ⟨⟨z0, z1, z2⟩, fy, lt, p0, -⟩ := hF2.facts
    have dn := Lib.hid (hF2.done (.bool isf) (.int .i64 ca) (.int .u64 vl))
    clear hF2 q1
    go_wp2_with fail
    go_loop [29] (fun i => i = .int .i64 0) (fun i => 0)
    case atStart => exact rfl
    case round =>
      obtain rfl := hrel
      go_wp2_with fail
      go_region
      go_wp2_with fail
      exact ret_IF (b := isf) (c := ca) (v := vl) rfl rfl rfl rfl dn.out.1 ⟨_, rfl, .inl ⟨rfl, rfl⟩, dn.out.2.1.drew, dn.out.2.2.drew⟩
  · have HR := Lib.hid (And.intro h64 (And.intro h8 hgl))
    have hn8 : all.length ≤ 8 := h8
    clear h64 h8 hgl
    obtain ⟨N, hN⟩ : ∃ N, N = all.length := ⟨_, rfl⟩
    rw [← hN] at hn8 ⊢
    have HN := Lib.hid hN
    clear hN
    have HK := Lib.hid (And.intro hF2 (And.intro q1 hR))
    clear hF2 q1 hR
    go_wp2_with fail
    go_loopw [29] (fun i wr => ∃ (k : Nat) (bk : List Int), k ≤ N ∧ i = .int .i64 k ∧ S.storeX bs all x = S.storeX bk (all.drop k) (x / 256 ^ k) ∧ Sip w b pm gm bk [a0, a1, a2, a3, a4, a5, a6, a7, a8, a9, a10, a11] B t most n' L' wr ∧ Row wr q 49 [.bool isf, .int .i64 ca, .int .u64 vl] ∧ Row wr g 35 (wrds all)) (fun i _ => N - (intOf i).toNat)
    case atStart => exact ⟨0, bs, Nat.zero_le _, rfl, by simp, HK.out⟩
    case round =>
      obtain ⟨k, bk, hk, rfl, hst, hF, hq, hR⟩ := hrel
      by_cases hlt : k < N
      · have hka : k < all.length := by rw [← HN.out]; exact hlt
        obtain ⟨a, ha⟩ : ∃ a, a = all.getD k 0 := ⟨_, rfl⟩
        have hmem : a ∈ all := by rw [ha]; simp [List.getD, List.getElem?_eq_getElem hka]
        have hcell : wr.cell? ⟨g, k, none⟩ = some (.int .u64 a) := by rw [hR.cell, ha]; simp [wrds, List.getD, List.getElem?_eq_getElem hka]
        have lg := hR.lt
        rw [drop_cons hka, ← ha, S.storeX] at hst
        have p0 : wr.cell? ⟨b, 0, none⟩ = some (.pointer (some ⟨pm, 0, none⟩)) := hF.spa.cell 0
        have lb := hF.spa.lt
        have hy := div_64 hxx k
        have P1 := Lib.hid (PT.out bk a (x / 256 ^ k) wr.drew hF.st.mem.drew (HR.out.1 a hmem) hy)
        have hs := shr_8 x k
        have hw8 : IntKind.i64.wrap (8 * (k : Int)) = 8 * (k : Int) := i64_in (by omega)
        have hy2 : x / 256 ^ k / 256 = x / 256 ^ (k + 1) := by rw [Int.pow_succ, Int.ediv_ediv_of_nonneg (by have := p256 k; omega)]
        rw [hy2] at hst
        have HST := Lib.hid hst
        have HW := Lib.hid (And.intro hF (And.intro hq hR))
        generalize x / 256 ^ k = y at *
        clear ha hmem hst hF hq hR hka hy2
        go_wp2_with fail
        refine wp_region_still_tail 7 (by kernel_rfl) (by kernel_rfl) ?_
        simp only [List.take_succ_cons, List.take_zero, List.drop_succ_cons, List.drop_zero]
        change wpStill Try.prog _ (World.drew wr) _ _ _
        repeat still_step
        refine wpStill_nil ?_
        change wpList _ _ _ _ _ (World.drew _)
        go_wp2_with fail
        rw [hs]
        refine P1.out.mono ?_
        rintro e w2 ⟨rfl, hA, hG⟩
        have hG' : wr.grownBy w2 (some gm) := ⟨hG.os, hG.tape, hG.output, hG.size, hG.block⟩
        obtain ⟨hF, hq, hR⟩ := HW.out
        have hF3 := hF.wrote hG' hA
        have hq3 := hq.grown hG' (some_ne (hq.apart hF.st.mem.row (by decide)))
        have hR3 := hR.grown hG' (some_ne (hR.apart hF.st.mem.row (by decide)))
        clear hF hq hR hG hG' hA HW p0 lb lg hcell
        go_wp2_with fail
        go_roundw
        case rel => exact ⟨k + 1, _, by omega, by go_num, HST.out, hF3, hq3, hR3⟩
        case measure => simp [intOf]; omega
      · obtain rfl : k = N := by omega
        obtain ⟨⟨l0, l1, l2⟩, -, lq⟩ := fault_free hq
        obtain ⟨⟨z0, z1, z2⟩, fy, lt, -⟩ := hF.facts
        rw [List.drop_of_length_le (by rw [HN.out]; exact Nat.le_refl _), S.storeX] at hst
        rw [← hst] at hF
        have dn := Lib.hid (hF.done (.bool isf) (.int .i64 ca) (.int .u64 vl))
        have HRR := Lib.hid (And.intro hR (hR.apart hF.flt (by decide)))
        have HGS := Lib.hid (gr_set3 wr (b + 2) (.bool isf) (.int .i64 ca) (.int .u64 vl))
        clear hF hq hst hR
        go_wp2_with fail
        go_region
        go_wp2_with fail
        refine ret_IF (b := isf) (c := ca) (v := vl) rfl rfl rfl rfl dn.out.1 ⟨.slice (some ⟨g, 0, none⟩) all.length all.length, by first | rfl | (rw [← HN.out]; rfl), ?_, dn.out.2.1.drew, dn.out.2.2.drew⟩
        refine .inr ⟨g, rfl, HRR.out.1.grown (gr_drew HGS.out) (some_ne HRR.out.2), ?_, HR.out.1, HR.out.2.1⟩
        have := HR.out.2.2
        have := HBB.out
        omega
end Go.Proofs.Ythhlmliejppdoaa
