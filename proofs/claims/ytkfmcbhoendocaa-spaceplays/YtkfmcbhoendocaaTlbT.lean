/-
  What To answers (tlb.To): a contract over the program's translation.
  Conditions: the arguments are numbers of their kinds; memory and the row of leaves stand behind their pointers.
-/
import Derived.Test.YtkfmcbhoendocaaTlbG
import Derived.Test.YtkfmcbhoendocaaTlbT0
import Derived.Deep.Cut
namespace Go.Proofs.Ytkfmcbhoendocaa
open Go Go.RowKit W M D A C P K
set_option linter.unusedVariables false

theorem wrap_u16 (x : Int) : IntKind.u16.wrap x = x % 65536 := by simp [IntKind.wrap, IntKind.bits, IntKind.signed]
theorem turned_drew {w w' : World} {B p most : Nat} {v : Value} {n : Int} {L : List T.Lf} (h : Turned w B p most v n L w') : Turned w B p most v n L w'.drew := by
  obtain ⟨v', hh, ho, hb⟩ := h
  exact ⟨v', ⟨hh.ptr, hh.arr, hh.fine, hh.le, hh.most, hh.own, hh.num⟩, ho, ⟨hb.os, hb.tape, hb.output, hb.size, hb.block⟩⟩
set_option maxRecDepth 100000 in
set_option maxHeartbeats 8000000 in
theorem TTo_c (pm gm : Nat) (bs : List Int) (c : Cs) (hc : C.Good c) (priv kind va : Int) (hp : I64 priv) (hk : I64 kind) (hv : B64 va) (B p most : Nat) (v : Value) (n : Int) (L : List T.Lf) (w : World) (hBw : B ≤ w.heap.size) (hm : RAt w pm gm bs) (hh : HAt w B p most v n L) :
    Calls Try.prog 15 #[.pointer (some ⟨p, 0, none⟩), .pointer (some ⟨pm, 0, none⟩), vC c, .int .i64 priv, .int .i64 kind, .int .u64 va] w fun e w' => e = .returned (.tuple #[.int .u64 (T.toRV bs L (gC c 9) (gC c 0) priv kind va), vF (T.toFV bs L (gC c 9) (gC c 0) priv kind va)]) ∧ Turned w B p most v (T.toNV L n (gC c 9) (gC c 0) priv kind va) (T.toLV bs most L (gC c 9) (gC c 0) priv kind va) w' := by
  have HF0 := Lib.hid (Gip.start (c := c) w hm hh)
  have PG := Lib.hid (fun W => Paged_c c hc W)
  have CN := Lib.hid (fun W => Canonical_c va hv W)
  have PF := Lib.hid (fun W => PageFault_c kind va hk W)
  have WK := Lib.hid (fun W hW => Walk_c pm gm bs c hc priv kind va hp hk hv W hW)
  have h0 := hc.get 0
  have h9 := hc.get 9
  have hfit := fits_walk hm.byt (sa := gC c 9) (st := gC c 0) (priv := priv) (kind := kind) hv
  have HLF := Lib.hid (T.lf_fine hm.byt (sa := gC c 9) (st := gC c 0) (priv := priv) (kind := kind) hv h9)
  have hcalm := calm_walk bs (gC c 9) (gC c 0) priv kind va
  have HUN := Lib.hid (fun h => T.to_un (bs := bs) (L := L) (n := n) (sa := gC c 9) (st := gC c 0) (priv := priv) (kind := kind) (va := va) (most := most) h)
  have HNC := Lib.hid (fun h h' => T.to_nc (bs := bs) (L := L) (n := n) (sa := gC c 9) (st := gC c 0) (priv := priv) (kind := kind) (va := va) (most := most) h h')
  have HHI := Lib.hid (fun k h h' hf hm => T.to_hit (bs := bs) (L := L) (n := n) (sa := gC c 9) (st := gC c 0) (priv := priv) (kind := kind) (va := va) (most := most) (k := k) h h' hf hm)
  have HNO := Lib.hid (fun h h' hf => T.hit_none (L := L) (sa := gC c 9) (st := gC c 0) (priv := priv) (kind := kind) (va := va) h h' hf)
  have HMF := Lib.hid (fun h h' hf hi => T.to_mf (bs := bs) (L := L) (n := n) (sa := gC c 9) (st := gC c 0) (priv := priv) (kind := kind) (va := va) (most := most) h h' hf hi)
  have HMM := Lib.hid (fun h h' hf hi => T.to_m (bs := bs) (L := L) (n := n) (sa := gC c 9) (st := gC c 0) (priv := priv) (kind := kind) (va := va) (most := most) h h' hf hi)
  generalize T.toRV bs L (gC c 9) (gC c 0) priv kind va = TV at *
  generalize T.toFV bs L (gC c 9) (gC c 0) priv kind va = FV at *
  generalize T.toLV bs most L (gC c 9) (gC c 0) priv kind va = LV at *
  generalize T.toNV L n (gC c 9) (gC c 0) priv kind va = NV at *
  generalize walkV bs (gC c 9) (gC c 0) priv kind va = R at *
  obtain ⟨a0, a1, a2, a3, a4, a5, a6, a7, a8, a9, a10, a11, rfl⟩ := twelve hc.1
  rw [show gC [a0, a1, a2, a3, a4, a5, a6, a7, a8, a9, a10, a11] 9 = a9 from rfl] at *
  rw [show gC [a0, a1, a2, a3, a4, a5, a6, a7, a8, a9, a10, a11] 0 = a0 from rfl] at *
  rw [show vC [a0, a1, a2, a3, a4, a5, a6, a7, a8, a9, a10, a11] = .agg #[.int .u64 a0, .int .u64 a1, .int .u64 a2, .int .u64 a3, .int .u64 a4, .int .u64 a5, .int .u64 a6, .int .u64 a7, .int .u64 a8, .int .u64 a9, .int .u64 a10, .int .u64 a11] from rfl] at *
  unfold vL vF vLeaf vFault at WK
  unfold vFault at PF
  obtain ⟨pt, lv, gb, isf, ca, vl⟩ := R
  simp only at WK HMF HMM HLF
  unfold Fits at hfit
  simp only at hfit
  obtain ⟨f0, f1, f2, f3, f4, f5⟩ := hfit
  unfold K.Calm at hcalm
  simp only at hcalm
  have AT := Lib.hid (fun W => At_c pt va lv f0 hv (by unfold I64; omega) W)
  have HCM := Lib.hid hcalm
  have FD := Lib.hid (fun W hW => Find_c B p most v n L va (T.asidV a9) hv (by unfold T.asidV B64 at *; omega) W hW)
  have HFK := Lib.hid (fun k (h : T.findT L va (T.asidV a9) = some k) => hh.fine k (List.mem_of_find?_eq_some h))
  have MY := Lib.hid (fun e he W => May_c e kind priv a0 he hk hp h0 W)
  have AK := Lib.hid (fun e l he hl W => At_c e va l he hv hl W)
  have has : 0 ≤ T.asidV a9 ∧ T.asidV a9 ≤ 65535 := by unfold T.asidV; omega
  have hws : IntKind.u64.wrap (IntKind.u16.wrap (a9 / 17592186044416)) = T.asidV a9 := by
    have e : IntKind.u16.wrap (a9 / 17592186044416) = T.asidV a9 := wrap_u16 _
    rw [e, u64_eq]; omega
  have hN := miss_64 n
  have HN := Lib.hid hN
  have PU := Lib.hid (fun W hW hB => TPut_c B p most v (missT n) L (T.lfV ⟨pt, lv, gb, isf, ca, vl⟩ va (T.asidV a9)) HLF.out W hB hW)
  unfold T.lfV vLeaf at PU
  simp only at PU
  unfold T.lfV at HMM
  simp only at HMM
  clear hc hm hcalm hh hN
  generalize T.asidV a9 = s at *
  unfold B64 at hv f0 f5 h0 h9
  unfold I64 at hp hk
  go_enter Try.func15, Try.ntmps15
  go_wp2_with fail
  have hF := HF0.out
  clear HF0
  unfold lC lFault at hF
  simp only [List.map_cons, List.map_nil] at hF
  have hF : Gip w w.heap.size pm gm bs [a0, a1, a2, a3, a4, a5, a6, a7, a8, a9, a10, a11] B p most v n L ((w.alloc (.cells #[.int .u64 a0, .int .u64 a1, .int .u64 a2, .int .u64 a3, .int .u64 a4, .int .u64 a5, .int .u64 a6, .int .u64 a7, .int .u64 a8, .int .u64 a9, .int .u64 a10, .int .u64 a11] 24)).alloc (.cells #[.bool false, .int .i64 0, .int .u64 0] 48)) := hF
  have hBb : B ≤ w.heap.size := hBw
  generalize (w.alloc (.cells #[.int .u64 a0, .int .u64 a1, .int .u64 a2, .int .u64 a3, .int .u64 a4, .int .u64 a5, .int .u64 a6, .int .u64 a7, .int .u64 a8, .int .u64 a9, .int .u64 a10, .int .u64 a11] 24)).alloc (.cells #[.bool false, .int .i64 0, .int .u64 0] 48) = V at *
  generalize hbb : w.heap.size = b at *
  have k0 : V.cell? ⟨b, 0, none⟩ = some (.int .u64 a0) := hF.csr.cell 0
  have k1 : V.cell? ⟨b, 1, none⟩ = some (.int .u64 a1) := hF.csr.cell 1
  have k2 : V.cell? ⟨b, 2, none⟩ = some (.int .u64 a2) := hF.csr.cell 2
  have k3 : V.cell? ⟨b, 3, none⟩ = some (.int .u64 a3) := hF.csr.cell 3
  have k4 : V.cell? ⟨b, 4, none⟩ = some (.int .u64 a4) := hF.csr.cell 4
  have k5 : V.cell? ⟨b, 5, none⟩ = some (.int .u64 a5) := hF.csr.cell 5
  have k6 : V.cell? ⟨b, 6, none⟩ = some (.int .u64 a6) := hF.csr.cell 6
  have k7 : V.cell? ⟨b, 7, none⟩ = some (.int .u64 a7) := hF.csr.cell 7
  have k8 : V.cell? ⟨b, 8, none⟩ = some (.int .u64 a8) := hF.csr.cell 8
  have k9 : V.cell? ⟨b, 9, none⟩ = some (.int .u64 a9) := hF.csr.cell 9
  have k10 : V.cell? ⟨b, 10, none⟩ = some (.int .u64 a10) := hF.csr.cell 10
  have k11 : V.cell? ⟨b, 11, none⟩ = some (.int .u64 a11) := hF.csr.cell 11
  have HFV := Lib.hid hF
  have ltb := hF.csr.lt
  clear hF
  try go_wp2_with fail
  refine (PG.out _).mono ?_
  rintro e w1 ⟨rfl, hG⟩
  have hF := HFV.out.keep hG
  clear hG HFV PG k0 k1 k2 k3 k4 k5 k6 k7 k8 k9 k10 k11 ltb
  cases hpg : pagedV a9
  · obtain ⟨y1, y2, y3, y4⟩ := HUN.out hpg
    obtain ⟨⟨z0, z1, z2⟩, fy, lt⟩ := hF.facts
    have dn := Lib.hid (hF.done (.bool false) (.int .i64 0) (.int .u64 0))
    have HY := Lib.hid (And.intro y1 (And.intro y2 (And.intro y3 y4)))
    clear hF y1 y2 y3 y4
    go_wp2_with fail
    exact ret_IF (b := false) (c := 0) (v := 0) rfl rfl rfl rfl dn.out.1 ⟨by rw [HY.out.1, HY.out.2.1]; rfl, by rw [HY.out.2.2.1, HY.out.2.2.2]; exact dn.out.2⟩
  · have HPG := Lib.hid hpg
    clear hpg
    go_wp2_with fail
    refine (CN.out _).mono ?_
    rintro e w2 ⟨rfl, rfl⟩
    cases hcn : canonV va
    · obtain ⟨y1, y2, y3, y4⟩ := HNC.out HPG.out hcn
      have HY := Lib.hid (And.intro y1 (And.intro y2 (And.intro y3 y4)))
      have HFF := Lib.hid hF
      clear hF y1 y2 y3 y4
      go_wp2_with fail
      refine (PF.out _).mono ?_
      rintro e w2 ⟨rfl, hG⟩
      have hF := HFF.out.keep hG
      obtain ⟨⟨z0, z1, z2⟩, fy, lt⟩ := hF.facts
      have dn := Lib.hid (hF.done (.bool true) (.int .i64 (pfC kind)) (.int .u64 va))
      clear hF hG HFF
      go_wp2_with fail
      exact ret_IF (b := true) (c := pfC kind) (v := va) rfl rfl rfl rfl dn.out.1 ⟨by rw [HY.out.1, HY.out.2.1]; rfl, by rw [HY.out.2.2.1, HY.out.2.2.2]; exact dn.out.2⟩
    · have HCN := Lib.hid hcn
      clear hcn
      have k0 : w1.cell? ⟨b, 0, none⟩ = some (.int .u64 a0) := hF.csr.cell 0
      have k1 : w1.cell? ⟨b, 1, none⟩ = some (.int .u64 a1) := hF.csr.cell 1
      have k2 : w1.cell? ⟨b, 2, none⟩ = some (.int .u64 a2) := hF.csr.cell 2
      have k3 : w1.cell? ⟨b, 3, none⟩ = some (.int .u64 a3) := hF.csr.cell 3
      have k4 : w1.cell? ⟨b, 4, none⟩ = some (.int .u64 a4) := hF.csr.cell 4
      have k5 : w1.cell? ⟨b, 5, none⟩ = some (.int .u64 a5) := hF.csr.cell 5
      have k6 : w1.cell? ⟨b, 6, none⟩ = some (.int .u64 a6) := hF.csr.cell 6
      have k7 : w1.cell? ⟨b, 7, none⟩ = some (.int .u64 a7) := hF.csr.cell 7
      have k8 : w1.cell? ⟨b, 8, none⟩ = some (.int .u64 a8) := hF.csr.cell 8
      have k9 : w1.cell? ⟨b, 9, none⟩ = some (.int .u64 a9) := hF.csr.cell 9
      have k10 : w1.cell? ⟨b, 10, none⟩ = some (.int .u64 a10) := hF.csr.cell 10
      have k11 : w1.cell? ⟨b, 11, none⟩ = some (.int .u64 a11) := hF.csr.cell 11
      have ltb := hF.csr.lt
      have HFF := Lib.hid hF
      clear hF
      go_wp2_with fail
      refine (FD.out _ HFF.out.row).mono ?_
      rintro e w2 ⟨rfl, hG⟩
      have hF := HFF.out.keep hG
      have HF2 := Lib.hid hF
      clear hG HFF hF k0 k1 k2 k3 k4 k5 k6 k7 k8 k9 k10 k11 ltb
      cases hfd : T.findT L va s with
      | none =>
        have HNO' := Lib.hid (HNO.out HPG.out HCN.out (fun k hk => by rw [hfd] at hk; cases hk))
        rw [show vGot (none : Option T.Lf) = .agg #[.int .u64 0, .int .i64 0, .bool false] from rfl, show (none : Option T.Lf).isSome = false from rfl]
        clear hfd HNO HHI
        have hF0 := HF2.out.keep (gr_alloc (gr_refl w2 none) (.cells #[.int .u64 0, .int .i64 0, .bool false] 52))
        have hQ0 := Row.fresh w2 52 [.int .u64 0, .int .i64 0, .bool false]
        have hqb : b + 1 < w2.heap.size := HF2.out.flt.lt
        go_upto_region 7 with (fail)
        generalize hU : w2.alloc (.cells #[.int .u64 0, .int .i64 0, .bool false] 52) = U at *
        generalize hq : w2.heap.size = q at *
        have hF := hF0
        have hQ := hQ0
        have l0 : U.cell? ⟨q, 0, none⟩ = some (.int .u64 0) := hQ.cell 0
        have l1 : U.cell? ⟨q, 1, none⟩ = some (.int .i64 0) := hQ.cell 1
        have l2 : U.cell? ⟨q, 2, none⟩ = some (.bool false) := hQ.cell 2
        have lq := hQ.lt
        have HQU := Lib.hid hQ
        clear hF0 hQ0 hQ HF2 hU hq
        go_wp2_with fail
        have c2 := hF.row.c2
        have f2 := hF.row.ptr.free 2
        have lp := hF.row.ptr.lt
        have HFF := Lib.hid hF
        clear hF
        go_wp2_with fail
        refine (aadd_c p n _ (by exact c2) (by exact f2)).mono ?_
        rintro e w4 ⟨rfl, rfl⟩
        have hF := HFF.out.miss HN.out
        have hqp : q ≠ p := HQU.out.apart HFF.out.row.ptr (by decide)
        have hQ := HQU.out.other (a := ⟨p, 2, none⟩) hqp (.int .u64 (missT n))
        clear HFF HQU c2 f2 lp l0 l1 l2 lq
        go_upto_region 9 with (fail)
        generalize U.setCell ⟨p, 2, none⟩ (.int .u64 (missT n)) = X at *
        have hFX := hF
        clear hF
        have hF := hFX.keep (gr_alloc (gr_refl X none) (.cells #[.bool false, .int .i64 0, .int .u64 0] 48))
        have hqX := hQ.lt
        have hQ := hQ.alloc (.cells #[.bool false, .int .i64 0, .int .u64 0] 48)
        have hbX := hFX.flt.lt
        have hR := Row.fresh X 48 [.bool false, .int .i64 0, .int .u64 0]
        go_upto_region 10 with (fail)
        generalize X.alloc (.cells #[.bool false, .int .i64 0, .int .u64 0] 48) = Y at *
        generalize hr : X.heap.size = r at *
        clear hFX
        have k0 : Y.cell? ⟨b, 0, none⟩ = some (.int .u64 a0) := hF.csr.cell 0
        have k1 : Y.cell? ⟨b, 1, none⟩ = some (.int .u64 a1) := hF.csr.cell 1
        have k2 : Y.cell? ⟨b, 2, none⟩ = some (.int .u64 a2) := hF.csr.cell 2
        have k3 : Y.cell? ⟨b, 3, none⟩ = some (.int .u64 a3) := hF.csr.cell 3
        have k4 : Y.cell? ⟨b, 4, none⟩ = some (.int .u64 a4) := hF.csr.cell 4
        have k5 : Y.cell? ⟨b, 5, none⟩ = some (.int .u64 a5) := hF.csr.cell 5
        have k6 : Y.cell? ⟨b, 6, none⟩ = some (.int .u64 a6) := hF.csr.cell 6
        have k7 : Y.cell? ⟨b, 7, none⟩ = some (.int .u64 a7) := hF.csr.cell 7
        have k8 : Y.cell? ⟨b, 8, none⟩ = some (.int .u64 a8) := hF.csr.cell 8
        have k9 : Y.cell? ⟨b, 9, none⟩ = some (.int .u64 a9) := hF.csr.cell 9
        have k10 : Y.cell? ⟨b, 10, none⟩ = some (.int .u64 a10) := hF.csr.cell 10
        have k11 : Y.cell? ⟨b, 11, none⟩ = some (.int .u64 a11) := hF.csr.cell 11
        have ltb := hF.csr.lt
        have HFY := Lib.hid hF
        have HQY := Lib.hid hQ
        have HRY := Lib.hid hR
        clear hF hQ hR
        go_wp2_with fail
        refine (WK.out _ HFY.out.mem).mono ?_
        rintro e w5 ⟨rfl, hG⟩
        have hF := HFY.out.keep hG
        have hQ := HQY.out.grown hG (by simp)
        have hR := HRY.out.grown hG (by simp)
        clear hG HFY HQY HRY k0 k1 k2 k3 k4 k5 k6 k7 k8 k9 k10 k11 ltb
        have l0 : w5.cell? ⟨q, 0, none⟩ = some (.int .u64 0) := hQ.cell 0
        have l1 : w5.cell? ⟨q, 1, none⟩ = some (.int .i64 0) := hQ.cell 1
        have l2 : w5.cell? ⟨q, 2, none⟩ = some (.bool false) := hQ.cell 2
        have n0 : w5.cell? ⟨r, 0, none⟩ = some (.bool false) := hR.cell 0
        have n1 : w5.cell? ⟨r, 1, none⟩ = some (.int .i64 0) := hR.cell 1
        have n2 : w5.cell? ⟨r, 2, none⟩ = some (.int .u64 0) := hR.cell 2
        have fq := hQ.free
        have fr := hR.free
        have lq := hQ.lt
        have lr := hR.lt
        have hqr : q ≠ r := by omega
        have hrq : r ≠ q := by omega
        have HZ := Lib.hid (And.intro ((hF.set3 hQ (by decide) (by decide) (by decide) (by decide) (by omega) (.int .u64 pt) (.int .i64 lv) (.bool gb)).set3 (oth3 hR hrq (.int .u64 pt) (.int .i64 lv) (.bool gb)) (by decide) (by decide) (by decide) (by decide) (by omega) (.bool isf) (.int .i64 ca) (.int .u64 vl))
          (And.intro (oth3 (put3 hQ (.int .u64 pt) (.int .i64 lv) (.bool gb)) hqr (.bool isf) (.int .i64 ca) (.int .u64 vl)) (put3 (oth3 hR hrq (.int .u64 pt) (.int .i64 lv) (.bool gb)) (.bool isf) (.int .i64 ca) (.int .u64 vl))))
        clear hF hQ hR
        go_upto_region 11 with (fail)
        obtain ⟨hF, hQ, hR⟩ := HZ.out
        clear HZ l0 l1 l2 n0 n1 n2 fq fr lq lr
        generalize ((((((w5.setCell ⟨q, 0, none⟩ (.int .u64 pt)).setCell ⟨q, 1, none⟩ (.int .i64 lv)).setCell ⟨q, 2, none⟩ (.bool gb)).setCell ⟨r, 0, none⟩ (.bool isf)).setCell ⟨r, 1, none⟩ (.int .i64 ca)).setCell ⟨r, 2, none⟩ (.int .u64 vl)) = Z at *
        have n0 : Z.cell? ⟨r, 0, none⟩ = some (.bool isf) := hR.cell 0
        have n1 : Z.cell? ⟨r, 1, none⟩ = some (.int .i64 ca) := hR.cell 1
        have n2 : Z.cell? ⟨r, 2, none⟩ = some (.int .u64 vl) := hR.cell 2
        have l0 : Z.cell? ⟨q, 0, none⟩ = some (.int .u64 pt) := hQ.cell 0
        have l1 : Z.cell? ⟨q, 1, none⟩ = some (.int .i64 lv) := hQ.cell 1
        have l2 : Z.cell? ⟨q, 2, none⟩ = some (.bool gb) := hQ.cell 2
        have lq := hQ.lt
        have lr := hR.lt
        clear hR
        cases isf
        · obtain ⟨rfl, rfl⟩ := HCM.out.1 rfl
          obtain ⟨y1, y2, y3, y4⟩ := HMM.out HPG.out HCN.out HNO'.out rfl
          have HY := Lib.hid (And.intro y1 (And.intro y2 (And.intro y3 y4)))
          have HFF := Lib.hid hF
          have HQQ := Lib.hid hQ
          clear y1 y2 y3 y4 hF hQ
          go_wp2_with fail
          refine (PU.out _ HFF.out.row (by have := HFF.out.but.size; omega)).mono ?_
          rintro e w6 ⟨rfl, hT⟩
          have hT2 := hT
          obtain ⟨v', -, -, hbz⟩ := hT2
          have hQ6 := held_row HFF.out.row hbz HQQ.out (by decide) (by decide)
          have hF6 := held_row HFF.out.row hbz HFF.out.flt (by decide) (by decide)
          have dn := Lib.hid (HFF.out.done_put hT (.bool false) (.int .i64 0) (.int .u64 0))
          have l0 : w6.cell? ⟨q, 0, none⟩ = some (.int .u64 pt) := hQ6.cell 0
          have l1 : w6.cell? ⟨q, 1, none⟩ = some (.int .i64 lv) := hQ6.cell 1
          have l2 : w6.cell? ⟨q, 2, none⟩ = some (.bool gb) := hQ6.cell 2
          have lq := hQ6.lt
          have z0 : w6.cell? ⟨b + 1, 0, none⟩ = some (.bool false) := hF6.cell 0
          have z1 : w6.cell? ⟨b + 1, 1, none⟩ = some (.int .i64 0) := hF6.cell 1
          have z2 : w6.cell? ⟨b + 1, 2, none⟩ = some (.int .u64 0) := hF6.cell 2
          have fy := hF6.free
          have lt := hF6.lt
          clear hT hbz hQ6 hF6 HFF HQQ n0 n1 n2 lr
          go_wp2_with fail
          refine (AT.out _).mono ?_
          rintro e w' ⟨rfl, rfl⟩
          go_wp2_with fail
          exact ret_IF (b := false) (c := 0) (v := 0) rfl rfl rfl rfl dn.out.1 ⟨by rw [HY.out.1, HY.out.2.1]; rfl, by rw [HY.out.2.2.1, HY.out.2.2.2]; exact dn.out.2⟩
        · obtain ⟨y1, y2, y3, y4⟩ := HMF.out HPG.out HCN.out HNO'.out rfl
          have HY := Lib.hid (And.intro y1 (And.intro y2 (And.intro y3 y4)))
          obtain ⟨⟨z0, z1, z2⟩, fy, lt⟩ := hF.facts
          have dn := Lib.hid (hF.done (.bool true) (.int .i64 ca) (.int .u64 vl))
          clear y1 y2 y3 y4 hF hQ
          go_wp2_with fail
          go_region
          go_wp2_with fail
          exact ret_IF (b := true) (c := ca) (v := vl) rfl rfl rfl rfl dn.out.1 ⟨by rw [HY.out.1, HY.out.2.1]; rfl, by rw [HY.out.2.2.1, HY.out.2.2.2]; exact turned_drew dn.out.2⟩
      | some k =>
        obtain ⟨kva, kas, kpt, klv, kgl⟩ := k
        have hkf := HFK.out _ hfd
        obtain ⟨g1, g2, g3, g4, g5⟩ := hkf
        simp only at g1 g2 g3 g4 g5
        have MYK := Lib.hid (fun W => MY.out kpt g3 W)
        have AKK := Lib.hid (fun W => AK.out kpt klv g3 (by unfold I64; omega) W)
        have HFD := Lib.hid hfd
        unfold B64 at g3
        rw [show vGot (some (⟨kva, kas, kpt, klv, kgl⟩ : T.Lf)) = .agg #[.int .u64 kpt, .int .i64 klv, .bool kgl] from rfl, show (some (⟨kva, kas, kpt, klv, kgl⟩ : T.Lf)).isSome = true from rfl]
        clear hfd
        have hF0 := HF2.out.keep (gr_alloc (gr_refl w2 none) (.cells #[.int .u64 kpt, .int .i64 klv, .bool kgl] 52))
        have hQ0 := Row.fresh w2 52 [.int .u64 kpt, .int .i64 klv, .bool kgl]
        have hqb : b + 1 < w2.heap.size := HF2.out.flt.lt
        go_upto_region 7 with (fail)
        generalize hU : w2.alloc (.cells #[.int .u64 kpt, .int .i64 klv, .bool kgl] 52) = U at *
        generalize hq : w2.heap.size = q at *
        have hF := hF0
        have hQ := hQ0
        have l0 : U.cell? ⟨q, 0, none⟩ = some (.int .u64 kpt) := hQ.cell 0
        have l1 : U.cell? ⟨q, 1, none⟩ = some (.int .i64 klv) := hQ.cell 1
        have l2 : U.cell? ⟨q, 2, none⟩ = some (.bool kgl) := hQ.cell 2
        have lq := hQ.lt
        have HQU := Lib.hid hQ
        clear hF0 hQ0 hQ HF2 hU hq
        have k0 : U.cell? ⟨b, 0, none⟩ = some (.int .u64 a0) := hF.csr.cell 0
        have ltb := hF.csr.lt
        have HFU := Lib.hid hF
        clear hF
        go_wp2_with fail
        refine (MYK.out _).mono ?_
        rintro e w3 ⟨rfl, hG⟩
        have hF := HFU.out.keep hG
        have hQ := HQU.out.grown hG (by simp)
        clear HFU HQU hG k0 ltb l0 l1 l2 lq
        have l0 : w3.cell? ⟨q, 0, none⟩ = some (.int .u64 kpt) := hQ.cell 0
        have l1 : w3.cell? ⟨q, 1, none⟩ = some (.int .i64 klv) := hQ.cell 1
        have l2 : w3.cell? ⟨q, 2, none⟩ = some (.bool kgl) := hQ.cell 2
        have lq := hQ.lt
        have HQU := Lib.hid hQ
        cases hmy : mayV kpt kind priv a0 with
        | true =>
          obtain ⟨y1, y2, y3, y4⟩ := HHI.out _ HPG.out HCN.out HFD.out hmy
          simp only at y1
          have HY := Lib.hid (And.intro y1 (And.intro y2 (And.intro y3 y4)))
          have HFF := Lib.hid hF
          clear hF hQ y1 y2 y3 y4 hmy
          go_wp2_with fail
          refine (AKK.out _).mono ?_
          rintro e w' ⟨rfl, rfl⟩
          obtain ⟨⟨z0, z1, z2⟩, fy, lt⟩ := HFF.out.facts
          have dn := Lib.hid (HFF.out.done (.bool false) (.int .i64 0) (.int .u64 0))
          clear l0 l1 l2 lq HQU
          go_wp2_with fail
          exact ret_IF (b := false) (c := 0) (v := 0) rfl rfl rfl rfl dn.out.1 ⟨by rw [HY.out.1, HY.out.2.1]; rfl, by rw [HY.out.2.2.1, HY.out.2.2.2]; exact dn.out.2⟩
        | false =>
          have HNO' := Lib.hid (HNO.out HPG.out HCN.out (fun k hk => by
            have e := HFD.out.symm.trans hk
            injection e with e
            rw [← e]
            exact hmy))
          clear HNO HHI hmy
          generalize w3 = U at *
          go_upto_region 8 with (fail)
          have c2 := hF.row.c2
          have f2 := hF.row.ptr.free 2
          have lp := hF.row.ptr.lt
          have HFF := Lib.hid hF
          clear hF
          go_wp2_with fail
          refine (aadd_c p n _ (by exact c2) (by exact f2)).mono ?_
          rintro e w4 ⟨rfl, rfl⟩
          have hF := HFF.out.miss HN.out
          have hqp : q ≠ p := HQU.out.apart HFF.out.row.ptr (by decide)
          have hQ := HQU.out.other (a := ⟨p, 2, none⟩) hqp (.int .u64 (missT n))
          clear HFF HQU c2 f2 lp l0 l1 l2 lq
          go_upto_region 9 with (fail)
          generalize U.setCell ⟨p, 2, none⟩ (.int .u64 (missT n)) = X at *
          have hFX := hF
          clear hF
          have hF := hFX.keep (gr_alloc (gr_refl X none) (.cells #[.bool false, .int .i64 0, .int .u64 0] 48))
          have hqX := hQ.lt
          have hQ := hQ.alloc (.cells #[.bool false, .int .i64 0, .int .u64 0] 48)
          have hbX := hFX.flt.lt
          have hR := Row.fresh X 48 [.bool false, .int .i64 0, .int .u64 0]
          go_upto_region 10 with (fail)
          generalize X.alloc (.cells #[.bool false, .int .i64 0, .int .u64 0] 48) = Y at *
          generalize hr : X.heap.size = r at *
          clear hFX
          have k0 : Y.cell? ⟨b, 0, none⟩ = some (.int .u64 a0) := hF.csr.cell 0
          have k1 : Y.cell? ⟨b, 1, none⟩ = some (.int .u64 a1) := hF.csr.cell 1
          have k2 : Y.cell? ⟨b, 2, none⟩ = some (.int .u64 a2) := hF.csr.cell 2
          have k3 : Y.cell? ⟨b, 3, none⟩ = some (.int .u64 a3) := hF.csr.cell 3
          have k4 : Y.cell? ⟨b, 4, none⟩ = some (.int .u64 a4) := hF.csr.cell 4
          have k5 : Y.cell? ⟨b, 5, none⟩ = some (.int .u64 a5) := hF.csr.cell 5
          have k6 : Y.cell? ⟨b, 6, none⟩ = some (.int .u64 a6) := hF.csr.cell 6
          have k7 : Y.cell? ⟨b, 7, none⟩ = some (.int .u64 a7) := hF.csr.cell 7
          have k8 : Y.cell? ⟨b, 8, none⟩ = some (.int .u64 a8) := hF.csr.cell 8
          have k9 : Y.cell? ⟨b, 9, none⟩ = some (.int .u64 a9) := hF.csr.cell 9
          have k10 : Y.cell? ⟨b, 10, none⟩ = some (.int .u64 a10) := hF.csr.cell 10
          have k11 : Y.cell? ⟨b, 11, none⟩ = some (.int .u64 a11) := hF.csr.cell 11
          have ltb := hF.csr.lt
          have HFY := Lib.hid hF
          have HQY := Lib.hid hQ
          have HRY := Lib.hid hR
          clear hF hQ hR
          go_wp2_with fail
          refine (WK.out _ HFY.out.mem).mono ?_
          rintro e w5 ⟨rfl, hG⟩
          have hF := HFY.out.keep hG
          have hQ := HQY.out.grown hG (by simp)
          have hR := HRY.out.grown hG (by simp)
          clear hG HFY HQY HRY k0 k1 k2 k3 k4 k5 k6 k7 k8 k9 k10 k11 ltb
          have l0 : w5.cell? ⟨q, 0, none⟩ = some (.int .u64 kpt) := hQ.cell 0
          have l1 : w5.cell? ⟨q, 1, none⟩ = some (.int .i64 klv) := hQ.cell 1
          have l2 : w5.cell? ⟨q, 2, none⟩ = some (.bool kgl) := hQ.cell 2
          have n0 : w5.cell? ⟨r, 0, none⟩ = some (.bool false) := hR.cell 0
          have n1 : w5.cell? ⟨r, 1, none⟩ = some (.int .i64 0) := hR.cell 1
          have n2 : w5.cell? ⟨r, 2, none⟩ = some (.int .u64 0) := hR.cell 2
          have fq := hQ.free
          have fr := hR.free
          have lq := hQ.lt
          have lr := hR.lt
          have hqr : q ≠ r := by omega
          have hrq : r ≠ q := by omega
          have HZ := Lib.hid (And.intro ((hF.set3 hQ (by decide) (by decide) (by decide) (by decide) (by omega) (.int .u64 pt) (.int .i64 lv) (.bool gb)).set3 (oth3 hR hrq (.int .u64 pt) (.int .i64 lv) (.bool gb)) (by decide) (by decide) (by decide) (by decide) (by omega) (.bool isf) (.int .i64 ca) (.int .u64 vl))
            (And.intro (oth3 (put3 hQ (.int .u64 pt) (.int .i64 lv) (.bool gb)) hqr (.bool isf) (.int .i64 ca) (.int .u64 vl)) (put3 (oth3 hR hrq (.int .u64 pt) (.int .i64 lv) (.bool gb)) (.bool isf) (.int .i64 ca) (.int .u64 vl))))
          clear hF hQ hR
          go_upto_region 11 with (fail)
          obtain ⟨hF, hQ, hR⟩ := HZ.out
          clear HZ l0 l1 l2 n0 n1 n2 fq fr lq lr
          generalize ((((((w5.setCell ⟨q, 0, none⟩ (.int .u64 pt)).setCell ⟨q, 1, none⟩ (.int .i64 lv)).setCell ⟨q, 2, none⟩ (.bool gb)).setCell ⟨r, 0, none⟩ (.bool isf)).setCell ⟨r, 1, none⟩ (.int .i64 ca)).setCell ⟨r, 2, none⟩ (.int .u64 vl)) = Z at *
          have n0 : Z.cell? ⟨r, 0, none⟩ = some (.bool isf) := hR.cell 0
          have n1 : Z.cell? ⟨r, 1, none⟩ = some (.int .i64 ca) := hR.cell 1
          have n2 : Z.cell? ⟨r, 2, none⟩ = some (.int .u64 vl) := hR.cell 2
          have l0 : Z.cell? ⟨q, 0, none⟩ = some (.int .u64 pt) := hQ.cell 0
          have l1 : Z.cell? ⟨q, 1, none⟩ = some (.int .i64 lv) := hQ.cell 1
          have l2 : Z.cell? ⟨q, 2, none⟩ = some (.bool gb) := hQ.cell 2
          have lq := hQ.lt
          have lr := hR.lt
          clear hR
          cases isf
          · obtain ⟨rfl, rfl⟩ := HCM.out.1 rfl
            obtain ⟨y1, y2, y3, y4⟩ := HMM.out HPG.out HCN.out HNO'.out rfl
            have HY := Lib.hid (And.intro y1 (And.intro y2 (And.intro y3 y4)))
            have HFF := Lib.hid hF
            have HQQ := Lib.hid hQ
            clear y1 y2 y3 y4 hF hQ
            go_wp2_with fail
            refine (PU.out _ HFF.out.row (by have := HFF.out.but.size; omega)).mono ?_
            rintro e w6 ⟨rfl, hT⟩
            have hT2 := hT
            obtain ⟨v', -, -, hbz⟩ := hT2
            have hQ6 := held_row HFF.out.row hbz HQQ.out (by decide) (by decide)
            have hF6 := held_row HFF.out.row hbz HFF.out.flt (by decide) (by decide)
            have dn := Lib.hid (HFF.out.done_put hT (.bool false) (.int .i64 0) (.int .u64 0))
            have l0 : w6.cell? ⟨q, 0, none⟩ = some (.int .u64 pt) := hQ6.cell 0
            have l1 : w6.cell? ⟨q, 1, none⟩ = some (.int .i64 lv) := hQ6.cell 1
            have l2 : w6.cell? ⟨q, 2, none⟩ = some (.bool gb) := hQ6.cell 2
            have lq := hQ6.lt
            have z0 : w6.cell? ⟨b + 1, 0, none⟩ = some (.bool false) := hF6.cell 0
            have z1 : w6.cell? ⟨b + 1, 1, none⟩ = some (.int .i64 0) := hF6.cell 1
            have z2 : w6.cell? ⟨b + 1, 2, none⟩ = some (.int .u64 0) := hF6.cell 2
            have fy := hF6.free
            have lt := hF6.lt
            clear hT hbz hQ6 hF6 HFF HQQ n0 n1 n2 lr
            go_wp2_with fail
            refine (AT.out _).mono ?_
            rintro e w' ⟨rfl, rfl⟩
            go_wp2_with fail
            exact ret_IF (b := false) (c := 0) (v := 0) rfl rfl rfl rfl dn.out.1 ⟨by rw [HY.out.1, HY.out.2.1]; rfl, by rw [HY.out.2.2.1, HY.out.2.2.2]; exact dn.out.2⟩
          · obtain ⟨y1, y2, y3, y4⟩ := HMF.out HPG.out HCN.out HNO'.out rfl
            have HY := Lib.hid (And.intro y1 (And.intro y2 (And.intro y3 y4)))
            obtain ⟨⟨z0, z1, z2⟩, fy, lt⟩ := hF.facts
            have dn := Lib.hid (hF.done (.bool true) (.int .i64 ca) (.int .u64 vl))
            clear y1 y2 y3 y4 hF hQ
            go_wp2_with fail
            go_region
            go_wp2_with fail
            exact ret_IF (b := true) (c := ca) (v := vl) rfl rfl rfl rfl dn.out.1 ⟨by rw [HY.out.1, HY.out.2.1]; rfl, by rw [HY.out.2.2.1, HY.out.2.2.2]; exact turned_drew dn.out.2⟩
end Go.Proofs.Ytkfmcbhoendocaa
