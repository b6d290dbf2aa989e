/-
  What an address becomes (space.To): contracts over the program's translation.
  Conditions: the arguments are numbers of their kinds; the space stands.
-/
import Derived.Test.YtkfmcbhoendocaaSpM
import Derived.Deep.Cut
namespace Go.Proofs.Ytkfmcbhoendocaa
open Go Go.RowKit W M D A C P K
set_option linter.unusedVariables false

theorem toR_64 {bs : List Int} {L : List T.Lf} {sa st priv kind va : Int} (hL : ∀ k ∈ L, T.Fine k) (hb : Byt bs) (hv : B64 va) : B64 (T.toRV bs L sa st priv kind va) := by
  unfold T.toRV
  split
  · rename_i k h
    exact at_64 (hL k (T.hit_mem h).1).2.2.1 hv
  · unfold toV
    split
    · split
      · unfold B64; omega
      · exact at_64 (fits_walk hb hv).1 hv
    · exact hv
theorem nil_hit (sa st priv kind va : Int) : T.hitV [] sa st priv kind va = none := by
  unfold T.hitV
  split <;> rfl
theorem nil_R (bs : List Int) (sa st priv kind va : Int) : T.toRV bs [] sa st priv kind va = toV bs sa st priv kind va := by unfold T.toRV; rw [nil_hit]
theorem nil_F (bs : List Int) (sa st priv kind va : Int) : T.toFV bs [] sa st priv kind va = walkV bs sa st priv kind va := by unfold T.toFV; rw [nil_hit]
theorem nil_L (bs : List Int) (sa st priv kind va : Int) : T.toLV bs 0 [] sa st priv kind va = [] := by unfold T.toLV T.putT; split <;> rfl
theorem toF_calm (bs : List Int) (L : List T.Lf) (sa st priv kind va : Int) : K.Calm (T.toFV bs L sa st priv kind va) := by
  unfold T.toFV
  split
  · exact K.calm_found 0 0 false
  · exact calm_walk bs sa st priv kind va
theorem sF_calm (bs : List Int) (L : List T.Lf) (sa st priv kind va m : Int) : K.Calm (S.sF bs L sa st priv kind va m) := by
  unfold S.sF
  split
  · exact toF_calm bs L sa st priv kind va
  · split
    · exact K.calm_found 0 0 false
    · exact K.calm_fault _ _
theorem turn_spc {w w' : World} {B pm gm : Nat} {bs : List Int} {p most : Nat} {n n' : Int} {L L' : List T.Lf} {v : Value} (h : Spc w B pm gm bs (some p) most n L) (hv : HAt w B p most v n L) (ht : Turned w B p most v n' L' w') : Spc w' B pm gm bs (some p) most n' L' ∧ Fr B gm w w' := by
  obtain ⟨v', hh, -, hb⟩ := ht
  exact ⟨⟨held_ram hv hb h.mem, h.own, ⟨v', hh⟩⟩, Fr.of_held hv hb gm⟩
theorem toNil_c {c : Cs} {priv kind va : Int} (hc : C.Good c) (hp : I64 priv) (hk : I64 kind) (hv : B64 va) {bs : List Int} {most : Nat} {L : List T.Lf} {x n n' : Int} {R : Wr} {L' : List T.Lf}
    (hx : T.toRV bs L (gC c 9) (gC c 0) priv kind va = x) (hR : T.toFV bs L (gC c 9) (gC c 0) priv kind va = R) (hL : T.toLV bs most L (gC c 9) (gC c 0) priv kind va = L')
    (pm gm B : Nat) (w : World) (h : Spc w B pm gm bs none most n L) :
    Calls Try.prog 21 #[.pointer (some ⟨pm, 0, none⟩), vC c, .int .i64 priv, .int .i64 kind, .int .u64 va] w fun e w' => e = .returned (.tuple #[.int .u64 x, .agg #[.bool R.isf, .int .i64 R.cause, .int .u64 R.val]]) ∧ Spc w' B pm gm bs none most n' L' ∧ Fr B gm w w' := by
  obtain ⟨h0, rfl⟩ := h.tl
  subst h0
  rw [nil_R] at hx
  rw [nil_F] at hR
  rw [nil_L] at hL
  subst hx hR hL
  refine (To_c pm gm bs c hc priv kind va hp hk hv w h.mem).mono ?_
  rintro e w' ⟨rfl, hG⟩
  exact ⟨rfl, ⟨h.mem.kept hG, h.own, rfl, rfl⟩, Fr.of_none hG B gm⟩
theorem toTlb_c {c : Cs} {priv kind va : Int} (hc : C.Good c) (hp : I64 priv) (hk : I64 kind) (hv : B64 va) {bs : List Int} {most : Nat} {L : List T.Lf} {x n n' : Int} {R : Wr} {L' : List T.Lf}
    (hx : T.toRV bs L (gC c 9) (gC c 0) priv kind va = x) (hR : T.toFV bs L (gC c 9) (gC c 0) priv kind va = R) (hL : T.toLV bs most L (gC c 9) (gC c 0) priv kind va = L') (hn : T.toNV L n (gC c 9) (gC c 0) priv kind va = n')
    (pm gm B p : Nat) (w : World) (h : Spc w B pm gm bs (some p) most n L) :
    Calls Try.prog 15 #[.pointer (some ⟨p, 0, none⟩), .pointer (some ⟨pm, 0, none⟩), vC c, .int .i64 priv, .int .i64 kind, .int .u64 va] w fun e w' => e = .returned (.tuple #[.int .u64 x, .agg #[.bool R.isf, .int .i64 R.cause, .int .u64 R.val]]) ∧ Spc w' B pm gm bs (some p) most n' L' ∧ Fr B gm w w' := by
  obtain ⟨v, hv'⟩ := h.tl
  subst hx hR hL hn
  refine (TTo_c pm gm bs c hc priv kind va hp hk hv B p most v n L w h.le h.mem hv').mono ?_
  rintro e w' ⟨rfl, hT⟩
  exact ⟨rfl, turn_spc h hv' hT⟩
/-- What stands while To goes on: the space, the registers, an empty fault. -/
structure Sip (w : World) (b pm gm : Nat) (bs : List Int) (c : Cs) (B : Nat) (t : Option Nat) (most : Nat) (n : Int) (L : List T.Lf) (wr : World) : Prop where
  spa : Row wr b 81 [.pointer (some ⟨pm, 0, none⟩), vT t]
  csr : Row wr (b + 1) 24 (lC c)
  flt : Row wr (b + 2) 48 (lFault false 0 0)
  st : Spc wr B pm gm bs t most n L
  fr : Fr B gm w wr
  sz : w.heap.size = b
section
variable {w wr ws : World} {b pm gm : Nat} {bs : List Int} {c : Cs} {B : Nat} {t : Option Nat} {most : Nat} {n n' : Int} {L L' : List T.Lf}
theorem Sip.start (w : World) (h : Spc w B pm gm bs t most n L) : Sip w w.heap.size pm gm bs c B t most n L (((w.alloc (.cells #[.pointer (some ⟨pm, 0, none⟩), vT t] 81)).alloc (.cells (lC c).toArray 24)).alloc (.cells (lFault false 0 0).toArray 48)) := by
  have a0 := Row.fresh w 81 [.pointer (some ⟨pm, 0, none⟩), vT t]
  have a1 := Row.fresh (w.alloc (.cells #[.pointer (some ⟨pm, 0, none⟩), vT t] 81)) 24 (lC c)
  have a2 := Row.fresh ((w.alloc (.cells #[.pointer (some ⟨pm, 0, none⟩), vT t] 81)).alloc (.cells (lC c).toArray 24)) 48 (lFault false 0 0)
  have s1 : (w.alloc (.cells #[.pointer (some ⟨pm, 0, none⟩), vT t] 81)).heap.size = w.heap.size + 1 := Array.size_push ..
  have s2 : ((w.alloc (.cells #[.pointer (some ⟨pm, 0, none⟩), vT t] 81)).alloc (.cells (lC c).toArray 24)).heap.size = w.heap.size + 2 := (Array.size_push ..).trans (by rw [s1])
  rw [s1] at a1
  rw [s2] at a2
  have hg := gr_alloc (gr_alloc (gr_alloc (gr_refl w none) (.cells #[.pointer (some ⟨pm, 0, none⟩), vT t] 81)) (.cells (lC c).toArray 24)) (.cells (lFault false 0 0).toArray 48)
  exact ⟨(a0.alloc _).alloc _, a1.alloc _, a2, h.keep hg, Fr.of_none hg B gm, rfl⟩
theorem Sip.keep (h : Sip w b pm gm bs c B t most n L wr) (hg : wr.grownBy ws none) : Sip w b pm gm bs c B t most n L ws :=
  ⟨h.spa.grown hg (by simp), h.csr.grown hg (by simp), h.flt.grown hg (by simp), h.st.keep hg, h.fr.trans (Fr.of_none hg B gm), h.sz⟩
theorem Sip.turn (h : Sip w b pm gm bs c B t most n L wr) (hs : Spc ws B pm gm bs t most n' L') (hf : Fr B gm wr ws) : Sip w b pm gm bs c B t most n' L' ws :=
  ⟨hf.row h.spa (by decide) (by decide) (h.spa.apart h.st.mem.row (by decide)), hf.row h.csr (by decide) (by decide) (h.csr.apart h.st.mem.row (by decide)), hf.row h.flt (by decide) (by decide) (h.flt.apart h.st.mem.row (by decide)), hs, h.fr.trans hf, h.sz⟩
/-- The fault is written. -/
theorem Sip.done (h : Sip w b pm gm bs c B t most n L wr) (u x y : Value) :
    Row (((wr.setCell ⟨b + 2, 0, none⟩ u).setCell ⟨b + 2, 1, none⟩ x).setCell ⟨b + 2, 2, none⟩ y) (b + 2) 48 [u, x, y] ∧
    Spc (((wr.setCell ⟨b + 2, 0, none⟩ u).setCell ⟨b + 2, 1, none⟩ x).setCell ⟨b + 2, 2, none⟩ y) B pm gm bs t most n L ∧ Fr B gm w (((wr.setCell ⟨b + 2, 0, none⟩ u).setCell ⟨b + 2, 1, none⟩ x).setCell ⟨b + 2, 2, none⟩ y) := by
  have s := h.sz
  have hB := h.st.own
  have hz := h.fr.size
  have hg := gr_set (i := 2) (gr_set (i := 1) (gr_set (i := 0) (gr_refl wr (some (b + 2))) u) x) y
  refine ⟨put3 h.flt u x y, h.st.set h.flt (by decide) (by decide) (by decide) (by decide) hg, ?_⟩
  refine ⟨hg.os.trans h.fr.os, hg.tape.trans h.fr.tape, hg.output.trans h.fr.output, Nat.le_trans hz hg.size, fun k hk hs => (hg.block k (by omega) (some_ne (by omega))).trans (h.fr.low k hk hs), fun hr h1 h2 h3 => ?_⟩
  exact (h.fr.row hr h1 h2 h3).grown hg (some_ne (by have := hr.lt; omega))
theorem Sip.facts (h : Sip w b pm gm bs c B t most n L wr) :
    (wr.cell? ⟨b + 2, 0, none⟩ = some (.bool false) ∧ wr.cell? ⟨b + 2, 1, none⟩ = some (.int .i64 0) ∧ wr.cell? ⟨b + 2, 2, none⟩ = some (.int .u64 0)) ∧
    (∀ i, wr.frozen? ⟨b + 2, i, none⟩ = false) ∧ b + 2 < wr.heap.size ∧ wr.cell? ⟨b, 0, none⟩ = some (.pointer (some ⟨pm, 0, none⟩)) ∧ wr.cell? ⟨b, 1, none⟩ = some (vT t) :=
  ⟨⟨h.flt.cell 0, h.flt.cell 1, h.flt.cell 2⟩, h.flt.free, h.flt.lt, h.spa.cell 0, h.spa.cell 1⟩
end

set_option maxRecDepth 100000 in
set_option maxHeartbeats 8000000 in
theorem SToN_c (pm gm : Nat) (bs : List Int) (c : Cs) (hc : C.Good c) (priv kind va m : Int) (hp : I64 priv) (hk : I64 kind) (hv : B64 va) (hm : I64 m) (B : Nat) (most : Nat) (n : Int) (L : List T.Lf) (w : World) (h : Spc w B pm gm bs none most n L) :
    Calls Try.prog 36 #[.agg #[.pointer (some ⟨pm, 0, none⟩), .pointer none], vC c, .int .i64 priv, .int .i64 kind, .int .u64 va, .int .i64 m] w fun e w' => e = .returned (.tuple #[.int .u64 (S.sR bs L (gC c 9) (gC c 0) priv kind va m), vF (S.sF bs L (gC c 9) (gC c 0) priv kind va m)]) ∧ Spc w' B pm gm bs none most (T.toNV L n (gC c 9) (gC c 0) priv kind va) (T.toLV bs most L (gC c 9) (gC c 0) priv kind va) ∧ Fr B gm w w' := by
  have HF0 := Lib.hid (Sip.start (c := c) w h)
  have hx64 := toR_64 (sa := gC c 9) (st := gC c 0) (priv := priv) (kind := kind) h.tl.fine h.mem.byt hv
  have hcalm := toF_calm bs L (gC c 9) (gC c 0) priv kind va
  obtain ⟨X, hX⟩ : ∃ X, X = S.sR bs L (gC c 9) (gC c 0) priv kind va m := ⟨_, rfl⟩
  obtain ⟨Y, hY⟩ : ∃ Y, Y = S.sF bs L (gC c 9) (gC c 0) priv kind va m := ⟨_, rfl⟩
  rw [← hX, ← hY]
  unfold S.sR at hX
  rw [← hY] at hX
  unfold S.sF at hY
  obtain ⟨x, hx⟩ : ∃ x, T.toRV bs L (gC c 9) (gC c 0) priv kind va = x := ⟨_, rfl⟩
  obtain ⟨R, hR⟩ : ∃ x, T.toFV bs L (gC c 9) (gC c 0) priv kind va = x := ⟨_, rfl⟩
  obtain ⟨L', hL⟩ : ∃ x, T.toLV bs most L (gC c 9) (gC c 0) priv kind va = x := ⟨_, rfl⟩
  obtain ⟨n', hn⟩ : ∃ x, T.toNV L n (gC c 9) (gC c 0) priv kind va = x := ⟨_, rfl⟩
  have TO := Lib.hid (fun W hW => toNil_c (n := n) (n' := n') hc hp hk hv hx hR hL pm gm B W hW)
  rw [hx] at hx64
  rw [hR] at hcalm
  rw [hx] at hX
  rw [hx, hR] at hY
  rw [hL, hn]
  have NA := Lib.hid (fun W => NoAddress_c kind va hk W)
  unfold vFault at NA
  have HA := Lib.hid (fun W hW => Has_c pm gm bs x m W hW hx64 hm)
  clear h hx hR hL hn
  obtain ⟨pt, lv, gb, isf, ca, vl⟩ := R
  unfold vF vFault
  simp only at TO hY
  unfold K.Calm at hcalm
  simp only at hcalm
  obtain ⟨a0, a1, a2, a3, a4, a5, a6, a7, a8, a9, a10, a11, rfl⟩ := twelve hc.1
  rw [show vC [a0, a1, a2, a3, a4, a5, a6, a7, a8, a9, a10, a11] = .agg #[.int .u64 a0, .int .u64 a1, .int .u64 a2, .int .u64 a3, .int .u64 a4, .int .u64 a5, .int .u64 a6, .int .u64 a7, .int .u64 a8, .int .u64 a9, .int .u64 a10, .int .u64 a11] from rfl] at *
  unfold I64 at hp hk hm
  unfold B64 at hv hx64
  clear hc
  have HXY := Lib.hid (And.intro hX hY)
  clear hcalm hX hY
  go_enter Try.func36, Try.ntmps36
  go_upto_region 1 with (fail)
  have hF := HF0.out
  clear HF0
  unfold lC lFault at hF
  simp only [List.map_cons, List.map_nil] at hF
  have hF : Sip w w.heap.size pm gm bs [a0, a1, a2, a3, a4, a5, a6, a7, a8, a9, a10, a11] B none most n L (((w.alloc (.cells #[.pointer (some ⟨pm, 0, none⟩), .pointer none] 81)).alloc (.cells #[.int .u64 a0, .int .u64 a1, .int .u64 a2, .int .u64 a3, .int .u64 a4, .int .u64 a5, .int .u64 a6, .int .u64 a7, .int .u64 a8, .int .u64 a9, .int .u64 a10, .int .u64 a11] 24)).alloc (.cells #[.bool false, .int .i64 0, .int .u64 0] 48)) := hF
  generalize ((w.alloc (.cells #[.pointer (some ⟨pm, 0, none⟩), .pointer none] 81)).alloc (.cells #[.int .u64 a0, .int .u64 a1, .int .u64 a2, .int .u64 a3, .int .u64 a4, .int .u64 a5, .int .u64 a6, .int .u64 a7, .int .u64 a8, .int .u64 a9, .int .u64 a10, .int .u64 a11] 24)).alloc (.cells #[.bool false, .int .i64 0, .int .u64 0] 48) = V at *
  generalize hbb : w.heap.size = b at *
  have k0 : V.cell? ⟨b + 1, 0, none⟩ = some (.int .u64 a0) := hF.csr.cell 0
  have k1 : V.cell? ⟨b + 1, 1, none⟩ = some (.int .u64 a1) := hF.csr.cell 1
  have k2 : V.cell? ⟨b + 1, 2, none⟩ = some (.int .u64 a2) := hF.csr.cell 2
  have k3 : V.cell? ⟨b + 1, 3, none⟩ = some (.int .u64 a3) := hF.csr.cell 3
  have k4 : V.cell? ⟨b + 1, 4, none⟩ = some (.int .u64 a4) := hF.csr.cell 4
  have k5 : V.cell? ⟨b + 1, 5, none⟩ = some (.int .u64 a5) := hF.csr.cell 5
  have k6 : V.cell? ⟨b + 1, 6, none⟩ = some (.int .u64 a6) := hF.csr.cell 6
  have k7 : V.cell? ⟨b + 1, 7, none⟩ = some (.int .u64 a7) := hF.csr.cell 7
  have k8 : V.cell? ⟨b + 1, 8, none⟩ = some (.int .u64 a8) := hF.csr.cell 8
  have k9 : V.cell? ⟨b + 1, 9, none⟩ = some (.int .u64 a9) := hF.csr.cell 9
  have k10 : V.cell? ⟨b + 1, 10, none⟩ = some (.int .u64 a10) := hF.csr.cell 10
  have k11 : V.cell? ⟨b + 1, 11, none⟩ = some (.int .u64 a11) := hF.csr.cell 11
  have p0 : V.cell? ⟨b, 0, none⟩ = some (.pointer (some ⟨pm, 0, none⟩)) := hF.spa.cell 0
  have p1 : V.cell? ⟨b, 1, none⟩ = some (.pointer none) := hF.spa.cell 1
  have ltb := hF.csr.lt
  have HF := Lib.hid hF
  clear hF
  go_wp2_with fail
  refine (TO.out _ HF.out.st).mono ?_
  rintro e w1 ⟨rfl, hS, hFr⟩
  have hF1 := HF.out.turn hS hFr
  have q1 := Row.fresh w1 48 [.bool isf, .int .i64 ca, .int .u64 vl]
  have hF2 := hF1.keep (gr_alloc (gr_refl w1 none) (.cells #[.bool isf, .int .i64 ca, .int .u64 vl] 48))
  have lt1 := hF1.flt.lt
  clear HF hS hFr k0 k1 k2 k3 k4 k5 k6 k7 k8 k9 k10 k11 p0 p1 ltb TO hF1
  go_upto_region 5 with (fail)
  replace q1 : Row (w1.alloc (.cells #[.bool isf, .int .i64 ca, .int .u64 vl] 48)) w1.heap.size 48 [.bool isf, .int .i64 ca, .int .u64 vl] := q1
  generalize w1.alloc (.cells #[.bool isf, .int .i64 ca, .int .u64 vl] 48) = U at *
  generalize w1.heap.size = q at *
  have l0 : U.cell? ⟨q, 0, none⟩ = some (.bool isf) := q1.cell 0
  have l1 : U.cell? ⟨q, 1, none⟩ = some (.int .i64 ca) := q1.cell 1
  have l2 : U.cell? ⟨q, 2, none⟩ = some (.int .u64 vl) := q1.cell 2
  have lq := q1.lt
  cases isf
  · obtain ⟨⟨z0, z1, z2⟩, fy, lt, p0, -⟩ := hF2.facts
    have HF2 := Lib.hid hF2
    clear hF2 q1
    go_wp2_with fail
    refine (HA.out _ HF2.out.st.mem).mono ?_
    rintro e w2 ⟨rfl, rfl⟩
    cases hh : hasB bs.length x m
    · go_wp2_with fail
      refine (NA.out _).mono ?_
      rintro e w2 ⟨rfl, hG⟩
      have hF3 := HF2.out.keep hG
      obtain ⟨⟨z0, z1, z2⟩, fy, lt, -⟩ := hF3.facts
      have dn := Lib.hid (hF3.done (.bool true) (.int .i64 (naC kind)) (.int .u64 va))
      clear hF3 HF2 hG
      go_wp2_with fail
      exact ret_IF (b := true) (c := naC kind) (v := va) rfl rfl rfl rfl dn.out.1 ⟨by rw [HXY.out.1, HXY.out.2]; simp [faultV, vFault, hh], dn.out.2⟩
    · have dn := Lib.hid (HF2.out.done (.bool false) (.int .i64 0) (.int .u64 0))
      clear HF2
      go_wp2_with fail
      exact ret_IF (b := false) (c := 0) (v := 0) rfl rfl rfl rfl dn.out.1 ⟨by rw [HXY.out.1, HXY.out.2]; simp [foundV, vFault, hh], dn.out.2⟩
  · obtain ⟨⟨z0, z1, z2⟩, fy, lt, p0, -⟩ := hF2.facts
    have dn := Lib.hid (hF2.done (.bool true) (.int .i64 ca) (.int .u64 vl))
    clear hF2 q1 HA NA
    go_wp2_with fail
    go_region
    go_wp2_with fail
    exact ret_IF (b := true) (c := ca) (v := vl) rfl rfl rfl rfl dn.out.1 ⟨by rw [HXY.out.1, HXY.out.2]; simp [vFault], dn.out.2.1.drew, dn.out.2.2.drew⟩

set_option maxRecDepth 100000 in
set_option maxHeartbeats 8000000 in
theorem SToT_c (pm gm : Nat) (bs : List Int) (c : Cs) (hc : C.Good c) (priv kind va m : Int) (hp : I64 priv) (hk : I64 kind) (hv : B64 va) (hm : I64 m) (B : Nat) (p : Nat) (most : Nat) (n : Int) (L : List T.Lf) (w : World) (h : Spc w B pm gm bs (some p) most n L) :
    Calls Try.prog 36 #[.agg #[.pointer (some ⟨pm, 0, none⟩), .pointer (some ⟨p, 0, none⟩)], vC c, .int .i64 priv, .int .i64 kind, .int .u64 va, .int .i64 m] w fun e w' => e = .returned (.tuple #[.int .u64 (S.sR bs L (gC c 9) (gC c 0) priv kind va m), vF (S.sF bs L (gC c 9) (gC c 0) priv kind va m)]) ∧ Spc w' B pm gm bs (some p) most (T.toNV L n (gC c 9) (gC c 0) priv kind va) (T.toLV bs most L (gC c 9) (gC c 0) priv kind va) ∧ Fr B gm w w' := by
  have HF0 := Lib.hid (Sip.start (c := c) w h)
  have hx64 := toR_64 (sa := gC c 9) (st := gC c 0) (priv := priv) (kind := kind) h.tl.fine h.mem.byt hv
  have hcalm := toF_calm bs L (gC c 9) (gC c 0) priv kind va
  obtain ⟨X, hX⟩ : ∃ X, X = S.sR bs L (gC c 9) (gC c 0) priv kind va m := ⟨_, rfl⟩
  obtain ⟨Y, hY⟩ : ∃ Y, Y = S.sF bs L (gC c 9) (gC c 0) priv kind va m := ⟨_, rfl⟩
  rw [← hX, ← hY]
  unfold S.sR at hX
  rw [← hY] at hX
  unfold S.sF at hY
  obtain ⟨x, hx⟩ : ∃ x, T.toRV bs L (gC c 9) (gC c 0) priv kind va = x := ⟨_, rfl⟩
  obtain ⟨R, hR⟩ : ∃ x, T.toFV bs L (gC c 9) (gC c 0) priv kind va = x := ⟨_, rfl⟩
  obtain ⟨L', hL⟩ : ∃ x, T.toLV bs most L (gC c 9) (gC c 0) priv kind va = x := ⟨_, rfl⟩
  obtain ⟨n', hn⟩ : ∃ x, T.toNV L n (gC c 9) (gC c 0) priv kind va = x := ⟨_, rfl⟩
  have TO := Lib.hid (fun W hW => toTlb_c (n := n) (n' := n') hc hp hk hv hx hR hL hn pm gm B p W hW)
  rw [hx] at hx64
  rw [hR] at hcalm
  rw [hx] at hX
  rw [hx, hR] at hY
  rw [hL, hn]
  have NA := Lib.hid (fun W => NoAddress_c kind va hk W)
  unfold vFault at NA
  have HA := Lib.hid (fun W hW => Has_c pm gm bs x m W hW hx64 hm)
  clear h hx hR hL hn
  obtain ⟨pt, lv, gb, isf, ca, vl⟩ := R
  unfold vF vFault
  simp only at TO hY
  unfold K.Calm at hcalm
  simp only at hcalm
  obtain ⟨a0, a1, a2, a3, a4, a5, a6, a7, a8, a9, a10, a11, rfl⟩ := twelve hc.1
  rw [show vC [a0, a1, a2, a3, a4, a5, a6, a7, a8, a9, a10, a11] = .agg #[.int .u64 a0, .int .u64 a1, .int .u64 a2, .int .u64 a3, .int .u64 a4, .int .u64 a5, .int .u64 a6, .int .u64 a7, .int .u64 a8, .int .u64 a9, .int .u64 a10, .int .u64 a11] from rfl] at *
  unfold I64 at hp hk hm
  unfold B64 at hv hx64
  clear hc
  have HXY := Lib.hid (And.intro hX hY)
  clear hcalm hX hY
  go_enter Try.func36, Try.ntmps36
  go_upto_region 1 with (fail)
  have hF := HF0.out
  clear HF0
  unfold lC lFault at hF
  simp only [List.map_cons, List.map_nil] at hF
  have hF : Sip w w.heap.size pm gm bs [a0, a1, a2, a3, a4, a5, a6, a7, a8, a9, a10, a11] B (some p) most n L (((w.alloc (.cells #[.pointer (some ⟨pm, 0, none⟩), .pointer (some ⟨p, 0, none⟩)] 81)).alloc (.cells #[.int .u64 a0, .int .u64 a1, .int .u64 a2, .int .u64 a3, .int .u64 a4, .int .u64 a5, .int .u64 a6, .int .u64 a7, .int .u64 a8, .int .u64 a9, .int .u64 a10, .int .u64 a11] 24)).alloc (.cells #[.bool false, .int .i64 0, .int .u64 0] 48)) := hF
  generalize ((w.alloc (.cells #[.pointer (some ⟨pm, 0, none⟩), .pointer (some ⟨p, 0, none⟩)] 81)).alloc (.cells #[.int .u64 a0, .int .u64 a1, .int .u64 a2, .int .u64 a3, .int .u64 a4, .int .u64 a5, .int .u64 a6, .int .u64 a7, .int .u64 a8, .int .u64 a9, .int .u64 a10, .int .u64 a11] 24)).alloc (.cells #[.bool false, .int .i64 0, .int .u64 0] 48) = V at *
  generalize hbb : w.heap.size = b at *
  have k0 : V.cell? ⟨b + 1, 0, none⟩ = some (.int .u64 a0) := hF.csr.cell 0
  have k1 : V.cell? ⟨b + 1, 1, none⟩ = some (.int .u64 a1) := hF.csr.cell 1
  have k2 : V.cell? ⟨b + 1, 2, none⟩ = some (.int .u64 a2) := hF.csr.cell 2
  have k3 : V.cell? ⟨b + 1, 3, none⟩ = some (.int .u64 a3) := hF.csr.cell 3
  have k4 : V.cell? ⟨b + 1, 4, none⟩ = some (.int .u64 a4) := hF.csr.cell 4
  have k5 : V.cell? ⟨b + 1, 5, none⟩ = some (.int .u64 a5) := hF.csr.cell 5
  have k6 : V.cell? ⟨b + 1, 6, none⟩ = some (.int .u64 a6) := hF.csr.cell 6
  have k7 : V.cell? ⟨b + 1, 7, none⟩ = some (.int .u64 a7) := hF.csr.cell 7
  have k8 : V.cell? ⟨b + 1, 8, none⟩ = some (.int .u64 a8) := hF.csr.cell 8
  have k9 : V.cell? ⟨b + 1, 9, none⟩ = some (.int .u64 a9) := hF.csr.cell 9
  have k10 : V.cell? ⟨b + 1, 10, none⟩ = some (.int .u64 a10) := hF.csr.cell 10
  have k11 : V.cell? ⟨b + 1, 11, none⟩ = some (.int .u64 a11) := hF.csr.cell 11
  have p0 : V.cell? ⟨b, 0, none⟩ = some (.pointer (some ⟨pm, 0, none⟩)) := hF.spa.cell 0
  have p1 : V.cell? ⟨b, 1, none⟩ = some (.pointer (some ⟨p, 0, none⟩)) := hF.spa.cell 1
  have ltb := hF.csr.lt
  have HF := Lib.hid hF
  clear hF
  go_wp2_with fail
  refine (TO.out _ HF.out.st).mono ?_
  rintro e w1 ⟨rfl, hS, hFr⟩
  have hF1 := HF.out.turn hS hFr
  have q1 := Row.fresh w1 48 [.bool isf, .int .i64 ca, .int .u64 vl]
  have hF2 := hF1.keep (gr_alloc (gr_refl w1 none) (.cells #[.bool isf, .int .i64 ca, .int .u64 vl] 48))
  have lt1 := hF1.flt.lt
  clear HF hS hFr k0 k1 k2 k3 k4 k5 k6 k7 k8 k9 k10 k11 p0 p1 ltb TO hF1
  go_upto_region 5 with (fail)
  replace q1 : Row (w1.alloc (.cells #[.bool isf, .int .i64 ca, .int .u64 vl] 48)) w1.heap.size 48 [.bool isf, .int .i64 ca, .int .u64 vl] := q1
  generalize w1.alloc (.cells #[.bool isf, .int .i64 ca, .int .u64 vl] 48) = U at *
  generalize w1.heap.size = q at *
  have l0 : U.cell? ⟨q, 0, none⟩ = some (.bool isf) := q1.cell 0
  have l1 : U.cell? ⟨q, 1, none⟩ = some (.int .i64 ca) := q1.cell 1
  have l2 : U.cell? ⟨q, 2, none⟩ = some (.int .u64 vl) := q1.cell 2
  have lq := q1.lt
  cases isf
  · obtain ⟨⟨z0, z1, z2⟩, fy, lt, p0, -⟩ := hF2.facts
    have HF2 := Lib.hid hF2
    clear hF2 q1
    go_wp2_with fail
    refine (HA.out _ HF2.out.st.mem).mono ?_
    rintro e w2 ⟨rfl, rfl⟩
    cases hh : hasB bs.length x m
    · go_wp2_with fail
      refine (NA.out _).mono ?_
      rintro e w2 ⟨rfl, hG⟩
      have hF3 := HF2.out.keep hG
      obtain ⟨⟨z0, z1, z2⟩, fy, lt, -⟩ := hF3.facts
      have dn := Lib.hid (hF3.done (.bool true) (.int .i64 (naC kind)) (.int .u64 va))
      clear hF3 HF2 hG
      go_wp2_with fail
      exact ret_IF (b := true) (c := naC kind) (v := va) rfl rfl rfl rfl dn.out.1 ⟨by rw [HXY.out.1, HXY.out.2]; simp [faultV, vFault, hh], dn.out.2⟩
    · have dn := Lib.hid (HF2.out.done (.bool false) (.int .i64 0) (.int .u64 0))
      clear HF2
      go_wp2_with fail
      exact ret_IF (b := false) (c := 0) (v := 0) rfl rfl rfl rfl dn.out.1 ⟨by rw [HXY.out.1, HXY.out.2]; simp [foundV, vFault, hh], dn.out.2⟩
  · obtain ⟨⟨z0, z1, z2⟩, fy, lt, p0, -⟩ := hF2.facts
    have dn := Lib.hid (hF2.done (.bool true) (.int .i64 ca) (.int .u64 vl))
    clear hF2 q1 HA NA
    go_wp2_with fail
    go_region
    go_wp2_with fail
    exact ret_IF (b := true) (c := ca) (v := vl) rfl rfl rfl rfl dn.out.1 ⟨by rw [HXY.out.1, HXY.out.2]; simp [vFault], dn.out.2.1.drew, dn.out.2.2.drew⟩

theorem STo_c (pm gm : Nat) (bs : List Int) (c : Cs) (hc : C.Good c) (priv kind va m : Int) (hp : I64 priv) (hk : I64 kind) (hv : B64 va) (hm : I64 m) (B : Nat) (t : Option Nat) (most : Nat) (n : Int) (L : List T.Lf) (w : World) (h : Spc w B pm gm bs t most n L) :
    Calls Try.prog 36 #[vS pm t, vC c, .int .i64 priv, .int .i64 kind, .int .u64 va, .int .i64 m] w fun e w' => e = .returned (.tuple #[.int .u64 (S.sR bs L (gC c 9) (gC c 0) priv kind va m), vF (S.sF bs L (gC c 9) (gC c 0) priv kind va m)]) ∧ Spc w' B pm gm bs t most (T.toNV L n (gC c 9) (gC c 0) priv kind va) (T.toLV bs most L (gC c 9) (gC c 0) priv kind va) ∧ Fr B gm w w' := by
  cases t with
  | none => exact SToN_c pm gm bs c hc priv kind va m hp hk hv hm B most n L w h
  | some p => exact SToT_c pm gm bs c hc priv kind va m hp hk hv hm B p most n L w h
end Go.Proofs.Ytkfmcbhoendocaa
