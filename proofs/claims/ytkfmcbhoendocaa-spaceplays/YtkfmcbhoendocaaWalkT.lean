/-
  What To answers (walk.To): a contract over the program's translation.
  Conditions: the arguments are numbers of their kinds; memory stands behind its pointer.
-/
import Derived.Test.YtkfmcbhoendocaaWalkS
import Derived.Test.YtkfmcbhoendocaaWalkE
import Derived.Deep.Cut
namespace Go.Proofs.Ytkfmcbhoendocaa
open Go Go.RowKit W M D A C P K
set_option linter.unusedVariables false

set_option maxRecDepth 100000 in
set_option maxHeartbeats 4000000 in
theorem To_c (p g : Nat) (bs : List Int) (c : Cs) (hc : C.Good c) (priv kind va : Int) (hp : I64 priv) (hk : I64 kind) (hv : B64 va) (w : World) (hm : RAt w p g bs) :
    Calls Try.prog 21 #[.pointer (some ⟨p, 0, none⟩), vC c, .int .i64 priv, .int .i64 kind, .int .u64 va] w fun e w' => e = .returned (.tuple #[.int .u64 (toV bs (gC c 9) (gC c 0) priv kind va), vF (walkV bs (gC c 9) (gC c 0) priv kind va)]) ∧ w.grownBy w' none := by
  have HF0 := Lib.hid (Gap.start (c := c) w hm)
  have PG := Lib.hid (fun W => Paged_c c hc W)
  have WK := Lib.hid (fun W hW => Walk_c p g bs c hc priv kind va hp hk hv W hW)
  have hfit := fits_walk hm.byt (sa := gC c 9) (st := gC c 0) (priv := priv) (kind := kind) hv
  have hcalm := calm_walk bs (gC c 9) (gC c 0) priv kind va
  obtain ⟨TV, hTV⟩ : ∃ TV, TV = toV bs (gC c 9) (gC c 0) priv kind va := ⟨_, rfl⟩
  rw [← hTV]
  unfold toV at hTV
  obtain ⟨R, hR⟩ : ∃ R, R = walkV bs (gC c 9) (gC c 0) priv kind va := ⟨_, rfl⟩
  rw [← hR] at WK hfit hcalm hTV ⊢
  unfold walkV at hR
  obtain ⟨a0, a1, a2, a3, a4, a5, a6, a7, a8, a9, a10, a11, rfl⟩ := twelve hc.1
  rw [show gC [a0, a1, a2, a3, a4, a5, a6, a7, a8, a9, a10, a11] 9 = a9 from rfl] at *
  rw [show vC [a0, a1, a2, a3, a4, a5, a6, a7, a8, a9, a10, a11] = .agg #[.int .u64 a0, .int .u64 a1, .int .u64 a2, .int .u64 a3, .int .u64 a4, .int .u64 a5, .int .u64 a6, .int .u64 a7, .int .u64 a8, .int .u64 a9, .int .u64 a10, .int .u64 a11] from rfl] at *
  unfold vL vF vLeaf vFault at WK
  obtain ⟨pt, lv, gb, isf, ca, vl⟩ := R
  simp only at WK hTV
  unfold Fits at hfit
  simp only at hfit
  obtain ⟨f0, f1, f2, f3, f4, f5⟩ := hfit
  unfold K.Calm at hcalm
  simp only at hcalm
  have AT := Lib.hid (fun W => At_c pt va lv f0 hv (by unfold I64; omega) W)
  have HCM := Lib.hid hcalm
  clear hc hm hcalm
  unfold B64 at hv f0 f5
  unfold I64 at hp hk
  go_enter Try.func21, Try.ntmps21
  go_wp2_with fail
  have hF := HF0.out
  clear HF0
  unfold lC lFault at hF
  simp only [List.map_cons, List.map_nil] at hF
  generalize (w.alloc (.cells #[.int .u64 a0, .int .u64 a1, .int .u64 a2, .int .u64 a3, .int .u64 a4, .int .u64 a5, .int .u64 a6, .int .u64 a7, .int .u64 a8, .int .u64 a9, .int .u64 a10, .int .u64 a11] 24)).alloc (.cells #[.bool false, .int .i64 0, .int .u64 0] 48) = V at *
  generalize w.heap.size = b at *
  have k0 : V.cell? ⟨b, 0, none⟩ = some (.int .u64 a0) := hF.csr.cell 0
  have k1 : V.cell? ⟨b, 1, none⟩ = some (.int .u64 a1) := hF.csr.cell 1
  have k2 : V.cell? ⟨b, 2, none⟩ = some (.int .u64 a2) := hF.csr.cell 2
  have k3 : V.cell? ⟨b, 3, none⟩ = some (.int .u64 a3) := hF.csr.cell 3
  have k4 : V.cell? ⟨b, 4, none⟩ = some (.int .u64 a4) := hF.csr.cell 4
  have k5 : V.cell? ⟨b, 5, none⟩ = some (.int .u64 a5) := hF.csr.cell 5
  have k6 : V.cell? ⟨b, 6, none⟩ = some (.int .u64 a6) := hF.csr.cell 6
  have k7 : V.cell? ⟨b, 7, none⟩ = some (.int .u64 a7) := hF.csr.cell 7
  have k8 : V.cell? ⟨b, 8, none⟩ = some (.int .u64 a8) := hF.csr.cell 8
  have k9 : V.cell? ⟨b, 9, none⟩ = some (.int .u64 a9) := hF.csr.cell 9
  have k10 : V.cell? ⟨b, 10, none⟩ = some (.int .u64 a10) := hF.csr.cell 10
  have k11 : V.cell? ⟨b, 11, none⟩ = some (.int .u64 a11) := hF.csr.cell 11
  have HFV := Lib.hid hF
  have ltb := hF.csr.lt
  clear hF
  try go_wp2_with fail
  refine (PG.out _).mono ?_
  rintro e w1 ⟨rfl, hG⟩
  have hF := HFV.out.keep hG
  clear hG HFV PG k0 k1 k2 k3 k4 k5 k6 k7 k8 k9 k10 k11 ltb
  cases hpg : pagedV a9
  · rw [hpg, if_neg (by simp)] at hR hTV
    unfold foundV at hR
    simp only [Wr.mk.injEq] at hR
    obtain ⟨rfl, rfl, rfl, rfl, rfl, rfl⟩ := hR
    subst hTV
    obtain ⟨⟨y0, y1, y2⟩, fy, lt⟩ := hF.facts
    have dn := Lib.hid (hF.done (.bool false) (.int .i64 0) (.int .u64 0))
    clear hF
    go_wp2_with fail
    exact ret_IF (b := false) (c := 0) (v := 0) rfl rfl rfl rfl dn.out.1 ⟨rfl, dn.out.2⟩
  · rw [hpg, if_pos rfl] at hTV
    clear hpg hR
    have k0 : w1.cell? ⟨b, 0, none⟩ = some (.int .u64 a0) := hF.csr.cell 0
    have k1 : w1.cell? ⟨b, 1, none⟩ = some (.int .u64 a1) := hF.csr.cell 1
    have k2 : w1.cell? ⟨b, 2, none⟩ = some (.int .u64 a2) := hF.csr.cell 2
    have k3 : w1.cell? ⟨b, 3, none⟩ = some (.int .u64 a3) := hF.csr.cell 3
    have k4 : w1.cell? ⟨b, 4, none⟩ = some (.int .u64 a4) := hF.csr.cell 4
    have k5 : w1.cell? ⟨b, 5, none⟩ = some (.int .u64 a5) := hF.csr.cell 5
    have k6 : w1.cell? ⟨b, 6, none⟩ = some (.int .u64 a6) := hF.csr.cell 6
    have k7 : w1.cell? ⟨b, 7, none⟩ = some (.int .u64 a7) := hF.csr.cell 7
    have k8 : w1.cell? ⟨b, 8, none⟩ = some (.int .u64 a8) := hF.csr.cell 8
    have k9 : w1.cell? ⟨b, 9, none⟩ = some (.int .u64 a9) := hF.csr.cell 9
    have k10 : w1.cell? ⟨b, 10, none⟩ = some (.int .u64 a10) := hF.csr.cell 10
    have k11 : w1.cell? ⟨b, 11, none⟩ = some (.int .u64 a11) := hF.csr.cell 11
    have ltb := hF.csr.lt
    have HFF := Lib.hid hF
    clear hF
    go_wp2_with fail
    refine (WK.out _ HFF.out.mem).mono ?_
    rintro e w2 ⟨rfl, hG⟩
    have hF := HFF.out.keep hG
    clear hG HFF k0 k1 k2 k3 k4 k5 k6 k7 k8 k9 k10 k11 ltb
    have hF3 := hF.keep (gr_alloc (gr_alloc (gr_refl w2 none) (.cells #[.int .u64 pt, .int .i64 lv, .bool gb] 52)) (.cells #[.bool isf, .int .i64 ca, .int .u64 vl] 48))
    have hL := (Row.fresh w2 52 [.int .u64 pt, .int .i64 lv, .bool gb]).alloc (.cells #[.bool isf, .int .i64 ca, .int .u64 vl] 48)
    have hN := Row.fresh (w2.alloc (.cells #[.int .u64 pt, .int .i64 lv, .bool gb] 52)) 48 [.bool isf, .int .i64 ca, .int .u64 vl]
    rw [show (w2.alloc (.cells #[.int .u64 pt, .int .i64 lv, .bool gb] 52)).heap.size = w2.heap.size + 1 from Array.size_push ..] at hN
    replace hL : Row ((w2.alloc (.cells #[.int .u64 pt, .int .i64 lv, .bool gb] 52)).alloc (.cells #[.bool isf, .int .i64 ca, .int .u64 vl] 48)) w2.heap.size 52 [.int .u64 pt, .int .i64 lv, .bool gb] := hL
    replace hN : Row ((w2.alloc (.cells #[.int .u64 pt, .int .i64 lv, .bool gb] 52)).alloc (.cells #[.bool isf, .int .i64 ca, .int .u64 vl] 48)) (w2.heap.size + 1) 48 [.bool isf, .int .i64 ca, .int .u64 vl] := hN
    go_upto_region 4 with (fail)
    generalize (w2.alloc (.cells #[.int .u64 pt, .int .i64 lv, .bool gb] 52)).alloc (.cells #[.bool isf, .int .i64 ca, .int .u64 vl] 48) = U at *
    generalize w2.heap.size = q at *
    have l0 : U.cell? ⟨q, 0, none⟩ = some (.int .u64 pt) := hL.cell 0
    have l1 : U.cell? ⟨q, 1, none⟩ = some (.int .i64 lv) := hL.cell 1
    have n0 : U.cell? ⟨q + 1, 0, none⟩ = some (.bool isf) := hN.cell 0
    have n1 : U.cell? ⟨q + 1, 1, none⟩ = some (.int .i64 ca) := hN.cell 1
    have n2 : U.cell? ⟨q + 1, 2, none⟩ = some (.int .u64 vl) := hN.cell 2
    obtain ⟨⟨y0, y1, y2⟩, fy, lt⟩ := hF3.facts
    have l2 := hL.lt
    have l3 := hN.lt
    clear hL hF
    cases isf
    · rw [if_neg (by simp)] at hTV
      obtain ⟨rfl, rfl⟩ := HCM.out.1 rfl
      go_wp2_with fail
      refine (AT.out _).mono ?_
      rintro e w' ⟨rfl, rfl⟩
      have dn := Lib.hid (hF3.done (.bool false) (.int .i64 0) (.int .u64 0))
      clear hF3 hN
      go_wp2_with fail
      exact ret_IF (b := false) (c := 0) (v := 0) rfl rfl rfl rfl dn.out.1 ⟨by rw [hTV]; rfl, dn.out.2⟩
    · rw [if_pos rfl] at hTV
      subst hTV
      have dn := Lib.hid (hF3.done (.bool true) (.int .i64 ca) (.int .u64 vl))
      clear hF3 hN
      go_wp2_with fail
      go_region
      go_wp2_with fail
      exact ret_IF (b := true) (c := ca) (v := vl) rfl rfl rfl rfl dn.out.1 ⟨rfl, gr_drew dn.out.2⟩
end Go.Proofs.Ytkfmcbhoendocaa
