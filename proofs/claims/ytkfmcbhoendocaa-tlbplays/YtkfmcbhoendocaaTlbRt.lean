/-
  What the document's own To (package suzerainref12) answers, given what its Put leaves: a contract over the translation.
  Conditions: the arguments are numbers of their kinds; memory and the row of leaves stand behind their pointers.
-/
import Derived.Test.YtkfmcbhoendocaaTlbRb
import Derived.Test.YtkfmcbhoendocaaTlbT
import Derived.Test.YtkfmcbhoendocaaWalkR
import Derived.Test.YtkfmcbhoendocaaPteR2
import Derived.Deep.CutBlock
namespace Go.Proofs.Ytkfmcbhoendocaa
open Go Go.RowKit W M D A C P K
set_option linter.unusedVariables false
set_option linter.unusedSimpArgs false

theorem cells3q {w : World} {g : Nat} {t : TypeId} {x y z : Value} (h : Row w g t [x, y, z]) : w.cell? ⟨g, 0, none⟩ = some x ∧ w.cell? ⟨g, 1, none⟩ = some y ∧ w.cell? ⟨g, 2, none⟩ = some z := ⟨h.cell 0, h.cell 1, h.cell 2⟩
theorem rfresh2 (w : World) (o : Obj) (t : TypeId) (l : List Value) : Row ((w.alloc o).alloc (.cells l.toArray t)) (w.heap.size + 1) t l := by
  have := Row.fresh (w.alloc o) t l
  rw [show (w.alloc o).heap.size = w.heap.size + 1 from Array.size_push ..] at this
  exact this
/-- What is found, or not, in one way. -/
theorem find_kinds {L : List T.Lf} (hf : ∀ k ∈ L, T.Fine k) (va s kind priv st : Int) :
    ∃ e l g fd, vGot (T.findT L va s) = .agg #[.int .u64 e, .int .i64 l, .bool g] ∧ (T.findT L va s).isSome = fd ∧ B64 e ∧ I64 l ∧
      ((fd && mayV e kind priv st) = true → ∃ k, T.findT L va s = some k ∧ k.pte = e ∧ k.lev = l) ∧ ((fd && mayV e kind priv st) = false → ∀ k, T.findT L va s = some k → mayV k.pte kind priv st = false) := by
  cases h : T.findT L va s with
  | none => exact ⟨0, 0, false, false, rfl, rfl, by decide, by unfold I64; omega, fun h => (by cases h), fun _ k hk => (by cases hk)⟩
  | some k =>
    obtain ⟨-, -, h3, h4, h5⟩ := hf k (List.mem_of_find?_eq_some h)
    exact ⟨k.pte, k.lev, k.glob, true, rfl, rfl, h3, by unfold I64; omega, fun _ => ⟨k, rfl, rfl, rfl⟩, fun hm k' hk' => by injection hk' with e; subst e; exact hm⟩
/-- What Put leaves. -/
def PutDoes : Prop := ∀ (p most : Nat) (v : Value) (n : Int) (L : List T.Lf) (k : T.Lf), T.Fine k → ∀ w : World, QT w p most v n L →
  Calls Try.prog 28 #[.pointer (some ⟨p, 0, none⟩), .int .u64 k.va, .int .u64 k.asid, vLeaf k.pte k.lev k.glob] w fun e w' => e = .returned (.tuple #[]) ∧ (∃ v', QT w' p most v' n (T.putT most L k)) ∧ w.grownBy w' (some p)
/-- What stands while To goes on: the registers, an empty fault; memory; the row. -/
structure Gq (w : World) (b pm gm : Nat) (bs : List Int) (c : Cs) (p most : Nat) (n : Int) (L : List T.Lf) (wr : World) : Prop where
  csr : Row wr b 24 (lC c)
  flt : Row wr (b + 1) 48 [.bool false, .int .i64 0, .int .u64 0]
  mem : QAt wr pm gm bs
  row : ∃ v, QT wr p most v n L
  gr : w.grownBy wr (some p)
  sz : w.heap.size = b
section
variable {w wr ws : World} {b pm gm : Nat} {bs : List Int} {c : Cs} {p most : Nat} {n n' : Int} {L L' : List T.Lf}
theorem Gq.keep (h : Gq w b pm gm bs c p most n L wr) (hg : wr.grownBy ws none) : Gq w b pm gm bs c p most n L ws :=
  ⟨h.csr.grown hg (by simp), h.flt.grown hg (by simp), h.mem.kept hg, let ⟨v, hv⟩ := h.row; ⟨v, hv.kept hg⟩, gr_trans h.gr (gr_none hg _), h.sz⟩
theorem Gq.turn (h : Gq w b pm gm bs c p most n L wr) (hg : wr.grownBy ws (some p)) (hr : ∃ v, QT ws p most v n' L') : Gq w b pm gm bs c p most n' L' ws := by
  obtain ⟨v, hv⟩ := h.row
  exact ⟨h.csr.grown hg (some_ne (h.csr.apart hv.ptr (by decide))), h.flt.grown hg (some_ne (h.flt.apart hv.ptr (by decide))), ⟨h.mem.ptr.grown hg (some_ne (h.mem.ptr.apart hv.ptr (by decide))), h.mem.row.grown hg (some_ne (h.mem.row.apart hv.ptr (by decide))), h.mem.byt, h.mem.len⟩, hr, gr_trans h.gr hg, h.sz⟩
/-- The fault is stored: the end. -/
theorem Gq.done (h : Gq w b pm gm bs c p most n L wr) (x : Bool) (y z : Int) : Row (((wr.setCell ⟨b + 1, 0, none⟩ (.bool x)).setCell ⟨b + 1, 1, none⟩ (.int .i64 y)).setCell ⟨b + 1, 2, none⟩ (.int .u64 z)) (b + 1) 48 (lFault x y z) ∧
    (∃ v, QT (((wr.setCell ⟨b + 1, 0, none⟩ (.bool x)).setCell ⟨b + 1, 1, none⟩ (.int .i64 y)).setCell ⟨b + 1, 2, none⟩ (.int .u64 z)) p most v n L) ∧ w.grownBy (((wr.setCell ⟨b + 1, 0, none⟩ (.bool x)).setCell ⟨b + 1, 1, none⟩ (.int .i64 y)).setCell ⟨b + 1, 2, none⟩ (.int .u64 z)) (some p) := by
  obtain ⟨v, hv⟩ := h.row
  have hg : wr.grownBy (((wr.setCell ⟨b + 1, 0, none⟩ (.bool x)).setCell ⟨b + 1, 1, none⟩ (.int .i64 y)).setCell ⟨b + 1, 2, none⟩ (.int .u64 z)) (some (b + 1)) := gr_set (gr_set (gr_set (gr_refl _ _) _) _) _
  refine ⟨((h.flt.put 0 (.bool x)).put 1 (.int .i64 y)).put 2 (.int .u64 z), ⟨v, hv.ptr.grown hg (some_ne (hv.ptr.apart h.flt (by decide))), hv.sl.keep hg (fun g l e hr => ?_), hv.fine, hv.le, hv.most, hv.num⟩, ?_⟩
  · injection e with e
    subst e
    exact (h.flt.apart hr (by decide)) rfl
  · refine ⟨hg.os.trans h.gr.os, hg.tape.trans h.gr.tape, hg.output.trans h.gr.output, Nat.le_trans h.gr.size hg.size, fun k hk hn => ?_⟩
    rw [hg.block k (Nat.lt_of_lt_of_le hk h.gr.size) (by have := h.sz; exact some_ne (by omega)), h.gr.block k hk hn]
end
theorem gq_start (w : World) {pm gm : Nat} {bs : List Int} {c : Cs} {p most : Nat} {v : Value} {n : Int} {L : List T.Lf} (hm : QAt w pm gm bs) (h : QT w p most v n L) : Gq w w.heap.size pm gm bs c p most n L ((w.alloc (.cells (lC c).toArray 24)).alloc (.cells #[.bool false, .int .i64 0, .int .u64 0] 48)) := by
  have g := gr_alloc (gr_alloc (gr_refl w none) (.cells (lC c).toArray 24)) (.cells #[.bool false, .int .i64 0, .int .u64 0] 48)
  exact ⟨(Row.fresh w 24 (lC c)).alloc _, rfresh2 w (.cells (lC c).toArray 24) 48 [.bool false, .int .i64 0, .int .u64 0], hm.kept g, ⟨v, h.kept g⟩, gr_none g _, rfl⟩
set_option maxRecDepth 100000 in
set_option maxHeartbeats 8000000 in
theorem rTo_c (PD : PutDoes) (pm gm : Nat) (bs : List Int) (c : Cs) (hc : C.Good c) (priv kind va : Int) (hp : I64 priv) (hk : I64 kind) (hv : B64 va) (p most : Nat) (v : Value) (n : Int) (L : List T.Lf) (w : World) (hm : QAt w pm gm bs) (hh : QT w p most v n L) :
    Calls Try.prog 30 #[.pointer (some ⟨p, 0, none⟩), .pointer (some ⟨pm, 0, none⟩), vC c, .int .i64 priv, .int .i64 kind, .int .u64 va] w fun e w' => e = .returned (.tuple #[.int .u64 (T.toRV bs L (gC c 9) (gC c 0) priv kind va), vF (T.toFV bs L (gC c 9) (gC c 0) priv kind va)]) ∧ (∃ v', QT w' p most v' (T.toNV L n (gC c 9) (gC c 0) priv kind va) (T.toLV bs most L (gC c 9) (gC c 0) priv kind va)) ∧ w.grownBy w' (some p) := by
  have HF0 := Lib.hid (gq_start (c := c) w hm hh)
  have PG := Lib.hid (fun W => rPaged_c c hc W)
  have CN := Lib.hid (fun W => rCanonical_c va hv W)
  have PF := Lib.hid (fun W => rFault_c kind va hk W)
  have WK := Lib.hid (fun W hW => rWalk_c pm gm bs c hc priv kind va hp hk hv W hW)
  have h0 := hc.get 0
  have h9 := hc.get 9
  have hfit := fits_walk hm.byt (sa := gC c 9) (st := gC c 0) (priv := priv) (kind := kind) hv
  have HLF := Lib.hid (T.lf_fine hm.byt (sa := gC c 9) (st := gC c 0) (priv := priv) (kind := kind) hv h9)
  have hcalm := calm_walk bs (gC c 9) (gC c 0) priv kind va
  have HUN := Lib.hid (fun h => T.to_un (bs := bs) (L := L) (n := n) (sa := gC c 9) (st := gC c 0) (priv := priv) (kind := kind) (va := va) (most := most) h)
  have HNC := Lib.hid (fun h h' => T.to_nc (bs := bs) (L := L) (n := n) (sa := gC c 9) (st := gC c 0) (priv := priv) (kind := kind) (va := va) (most := most) h h')
  have HHI := Lib.hid (fun k h h' hf hm => T.to_hit (bs := bs) (L := L) (n := n) (sa := gC c 9) (st := gC c 0) (priv := priv) (kind := kind) (va := va) (most := most) (k := k) h h' hf hm)
  have HNO := Lib.hid (fun h h' hf => T.hit_none (L := L) (sa := gC c 9) (st := gC c 0) (priv := priv) (kind := kind) (va := va) h h' hf)
  have HMF := Lib.hid (fun h h' hf hi => T.to_mf (bs := bs) (L := L) (n := n) (sa := gC c 9) (st := gC c 0) (priv := priv) (kind := kind) (va := va) (most := most) h h' hf hi)
  have HMM := Lib.hid (fun h h' hf hi => T.to_m (bs := bs) (L := L) (n := n) (sa := gC c 9) (st := gC c 0) (priv := priv) (kind := kind) (va := va) (most := most) h h' hf hi)
  generalize T.toRV bs L (gC c 9) (gC c 0) priv kind va = TV at *
  generalize T.toFV bs L (gC c 9) (gC c 0) priv kind va = FV at *
  generalize T.toLV bs most L (gC c 9) (gC c 0) priv kind va = LV at *
  generalize T.toNV L n (gC c 9) (gC c 0) priv kind va = NV at *
  generalize walkV bs (gC c 9) (gC c 0) priv kind va = R at *
  obtain ⟨a0, a1, a2, a3, a4, a5, a6, a7, a8, a9, a10, a11, rfl⟩ := twelve hc.1
  rw [show gC [a0, a1, a2, a3, a4, a5, a6, a7, a8, a9, a10, a11] 9 = a9 from rfl] at *
  rw [show gC [a0, a1, a2, a3, a4, a5, a6, a7, a8, a9, a10, a11] 0 = a0 from rfl] at *
  rw [show vC [a0, a1, a2, a3, a4, a5, a6, a7, a8, a9, a10, a11] = .agg #[.int .u64 a0, .int .u64 a1, .int .u64 a2, .int .u64 a3, .int .u64 a4, .int .u64 a5, .int .u64 a6, .int .u64 a7, .int .u64 a8, .int .u64 a9, .int .u64 a10, .int .u64 a11] from rfl] at *
  unfold vL vF vLeaf vFault at WK
  unfold vFault at PF
  obtain ⟨pt, lv, gb, isf, ca, vl⟩ := R
  simp only at WK HMF HMM HLF
  unfold Fits at hfit
  simp only at hfit
  obtain ⟨f0, f1, f2, f3, f4, f5⟩ := hfit
  unfold K.Calm at hcalm
  simp only at hcalm
  have AT := Lib.hid (fun W => rAt_c pt va lv f0 hv (by unfold I64; omega) W)
  have HCM := Lib.hid hcalm
  have has : 0 ≤ T.asidV a9 ∧ T.asidV a9 ≤ 65535 := by unfold T.asidV; omega
  have FD := Lib.hid (fun v W hW => rFind_c p most v n L va (T.asidV a9) hv (by unfold T.asidV B64 at *; omega) W hW)
  obtain ⟨e0, l0, g0, fd, q1, q2, q3, q4, q5, q6⟩ := find_kinds hh.fine va (T.asidV a9) kind priv a0
  rw [q1, q2] at FD
  have MY := Lib.hid (fun W => rMay_c e0 kind priv a0 q3 hk hp h0 W)
  have AK := Lib.hid (fun W => rAt_c e0 va l0 q3 hv q4 W)
  have HQ5 := Lib.hid q5
  have HQ6 := Lib.hid q6
  have hws : a9 / 17592186044416 % 65536 = T.asidV a9 := rfl
  have HN := Lib.hid (miss_64 n)
  have hnn : B64 n := hh.num
  have hms : IntKind.u64.wrap (n + 1) = missT n := by rw [u64_eq]; rfl
  have PU := Lib.hid (fun v W hW => PD p most v (missT n) L (T.lfV ⟨pt, lv, gb, isf, ca, vl⟩ va (T.asidV a9)) HLF.out W hW)
  unfold T.lfV vLeaf at PU
  simp only at PU
  unfold T.lfV at HMM
  simp only at HMM
  clear hc hm hcalm hh q1 q2 q5 q6
  generalize T.asidV a9 = s at *
  unfold B64 at hv f0 f5 h0 h9 q3 hnn
  unfold I64 at hp hk q4
  go_enter Try.func30, Try.ntmps30
  go_wp2_with fail
  have hF := HF0.out
  clear HF0
  unfold lC at hF
  simp only [List.map_cons, List.map_nil] at hF
  have hF : Gq w w.heap.size pm gm bs [a0, a1, a2, a3, a4, a5, a6, a7, a8, a9, a10, a11] p most n L ((w.alloc (.cells #[.int .u64 a0, .int .u64 a1, .int .u64 a2, .int .u64 a3, .int .u64 a4, .int .u64 a5, .int .u64 a6, .int .u64 a7, .int .u64 a8, .int .u64 a9, .int .u64 a10, .int .u64 a11] 24)).alloc (.cells #[.bool false, .int .i64 0, .int .u64 0] 48)) := hF
  generalize (w.alloc (.cells #[.int .u64 a0, .int .u64 a1, .int .u64 a2, .int .u64 a3, .int .u64 a4, .int .u64 a5, .int .u64 a6, .int .u64 a7, .int .u64 a8, .int .u64 a9, .int .u64 a10, .int .u64 a11] 24)).alloc (.cells #[.bool false, .int .i64 0, .int .u64 0] 48) = V at *
  generalize hbb : w.heap.size = b at *
  have k0 : V.cell? ⟨b, 0, none⟩ = some (.int .u64 a0) := hF.csr.cell 0
  have k1 : V.cell? ⟨b, 1, none⟩ = some (.int .u64 a1) := hF.csr.cell 1
  have k2 : V.cell? ⟨b, 2, none⟩ = some (.int .u64 a2) := hF.csr.cell 2
  have k3 : V.cell? ⟨b, 3, none⟩ = some (.int .u64 a3) := hF.csr.cell 3
  have k4 : V.cell? ⟨b, 4, none⟩ = some (.int .u64 a4) := hF.csr.cell 4
  have k5 : V.cell? ⟨b, 5, none⟩ = some (.int .u64 a5) := hF.csr.cell 5
  have k6 : V.cell? ⟨b, 6, none⟩ = some (.int .u64 a6) := hF.csr.cell 6
  have k7 : V.cell? ⟨b, 7, none⟩ = some (.int .u64 a7) := hF.csr.cell 7
  have k8 : V.cell? ⟨b, 8, none⟩ = some (.int .u64 a8) := hF.csr.cell 8
  have k9 : V.cell? ⟨b, 9, none⟩ = some (.int .u64 a9) := hF.csr.cell 9
  have k10 : V.cell? ⟨b, 10, none⟩ = some (.int .u64 a10) := hF.csr.cell 10
  have k11 : V.cell? ⟨b, 11, none⟩ = some (.int .u64 a11) := hF.csr.cell 11
  have ltb := hF.csr.lt
  have HFV := Lib.hid hF
  clear hF
  try go_wp2_with fail
  refine (PG.out _).mono ?_
  rintro e w1 ⟨rfl, hG⟩
  have hF := HFV.out.keep hG
  clear hG HFV PG k0 k1 k2 k3 k4 k5 k6 k7 k8 k9 k10 k11 ltb
  cases hpg : pagedV a9
  · obtain ⟨y1, y2, y3, y4⟩ := HUN.out hpg
    obtain ⟨z0, z1, z2⟩ := cells3q hF.flt
    have fy := hF.flt.free
    have lt := hF.flt.lt
    have dn := Lib.hid (hF.done false 0 0)
    have HY := Lib.hid (And.intro y1 (And.intro y2 (And.intro y3 y4)))
    clear hF y1 y2 y3 y4
    go_wp2_with fail
    exact ret_IF (b := false) (c := 0) (v := 0) rfl rfl rfl rfl dn.out.1 ⟨by rw [HY.out.1, HY.out.2.1]; rfl, by rw [HY.out.2.2.1, HY.out.2.2.2]; exact dn.out.2⟩
  · have HPG := Lib.hid hpg
    clear hpg
    go_wp2_with fail
    refine (CN.out _).mono ?_
    rintro e w2 ⟨rfl, rfl⟩
    cases hcn : canonV va
    · obtain ⟨y1, y2, y3, y4⟩ := HNC.out HPG.out hcn
      have HY := Lib.hid (And.intro y1 (And.intro y2 (And.intro y3 y4)))
      have HFF := Lib.hid hF
      clear hF y1 y2 y3 y4
      go_wp2_with fail
      refine (PF.out _).mono ?_
      rintro e w2 ⟨rfl, hG⟩
      have hF := HFF.out.keep hG
      obtain ⟨z0, z1, z2⟩ := cells3q hF.flt
      have fy := hF.flt.free
      have lt := hF.flt.lt
      have dn := Lib.hid (hF.done true (pfC kind) va)
      clear hF hG HFF
      go_wp2_with fail
      exact ret_IF (b := true) (c := pfC kind) (v := va) rfl rfl rfl rfl dn.out.1 ⟨by rw [HY.out.1, HY.out.2.1]; rfl, by rw [HY.out.2.2.1, HY.out.2.2.2]; exact dn.out.2⟩
    · have HCN := Lib.hid hcn
      clear hcn
      have k0 : w1.cell? ⟨b, 0, none⟩ = some (.int .u64 a0) := hF.csr.cell 0
      have k1 : w1.cell? ⟨b, 1, none⟩ = some (.int .u64 a1) := hF.csr.cell 1
      have k2 : w1.cell? ⟨b, 2, none⟩ = some (.int .u64 a2) := hF.csr.cell 2
      have k3 : w1.cell? ⟨b, 3, none⟩ = some (.int .u64 a3) := hF.csr.cell 3
      have k4 : w1.cell? ⟨b, 4, none⟩ = some (.int .u64 a4) := hF.csr.cell 4
      have k5 : w1.cell? ⟨b, 5, none⟩ = some (.int .u64 a5) := hF.csr.cell 5
      have k6 : w1.cell? ⟨b, 6, none⟩ = some (.int .u64 a6) := hF.csr.cell 6
      have k7 : w1.cell? ⟨b, 7, none⟩ = some (.int .u64 a7) := hF.csr.cell 7
      have k8 : w1.cell? ⟨b, 8, none⟩ = some (.int .u64 a8) := hF.csr.cell 8
      have k9 : w1.cell? ⟨b, 9, none⟩ = some (.int .u64 a9) := hF.csr.cell 9
      have k10 : w1.cell? ⟨b, 10, none⟩ = some (.int .u64 a10) := hF.csr.cell 10
      have k11 : w1.cell? ⟨b, 11, none⟩ = some (.int .u64 a11) := hF.csr.cell 11
      have ltb := hF.csr.lt
      have HFF := Lib.hid hF
      clear hF
      obtain ⟨v1, hv1⟩ := HFF.out.row
      have HV1 := Lib.hid hv1
      clear hv1
      go_wp2_with fail
      refine (FD.out _ _ HV1.out).mono ?_
      rintro e w2 ⟨rfl, hG⟩
      have hA := gr_alloc (gr_refl w2 none) (.cells #[.int .u64 e0, .int .i64 l0, .bool g0] 52)
      have hF := HFF.out.keep (gr_trans hG hA)
      have hQ := Row.fresh w2 52 [.int .u64 e0, .int .i64 l0, .bool g0]
      clear hG HFF HV1 hA k0 k1 k2 k3 k4 k5 k6 k7 k8 k9 k10 k11 ltb
      go_upto_region 9 with (fail)
      generalize w2.alloc (.cells #[.int .u64 e0, .int .i64 l0, .bool g0] 52) = U at *
      generalize w2.heap.size = q at *
      have m0 : U.cell? ⟨q, 0, none⟩ = some (.int .u64 e0) := hQ.cell 0
      have m1 : U.cell? ⟨q, 1, none⟩ = some (.int .i64 l0) := hQ.cell 1
      have lq := hQ.lt
      have k0 : U.cell? ⟨b, 0, none⟩ = some (.int .u64 a0) := hF.csr.cell 0
      have ltb := hF.csr.lt
      have HFU := Lib.hid hF
      clear hF hQ
      go_wp2_with fail
      refine (MY.out _).mono ?_
      rintro e w3 ⟨rfl, rfl⟩
      generalize hmy : mayV e0 kind priv a0 = my at *
      have HMY := Lib.hid hmy
      clear hmy
      go_upto_region 10 with (fail)
      go_cut [56] from 53 to 56 (fun c wc => c = .bool (fd && my) ∧ wc = U)
      case first =>
        cases fd
        · go_wp2_with fail
          go_meet
          case rel => exact ⟨rfl, rfl⟩
        · go_wp2_with fail
          go_meet
          case rel => exact ⟨rfl, rfl⟩
      case rest =>
        obtain ⟨rfl, rfl⟩ := hcut
        cases hfm : (fd && my)
        · have HNO' := Lib.hid (HNO.out HPG.out HCN.out (HQ6.out hfm))
          obtain ⟨v1, hv1⟩ := HFU.out.row
          have c2 := hv1.c2
          have f2 := hv1.ptr.free 2
          have lp := hv1.ptr.lt
          have hX := HFU.out.turn (gr_set (i := 2) (gr_refl wc (some p)) (.int .u64 (missT n))) ⟨v1, hv1.miss HN.out⟩
          have HX := Lib.hid hX
          clear hX hv1 HFU HHI HNO HQ5 HQ6 hfm m0 m1 lq k0 ltb AK
          go_upto_region 13 with (fail)
          clear c2 f2 lp
          generalize wc.setCell ⟨p, 2, none⟩ (.int .u64 (missT n)) = X at *
          have k0 : X.cell? ⟨b, 0, none⟩ = some (.int .u64 a0) := HX.out.csr.cell 0
          have k1 : X.cell? ⟨b, 1, none⟩ = some (.int .u64 a1) := HX.out.csr.cell 1
          have k2 : X.cell? ⟨b, 2, none⟩ = some (.int .u64 a2) := HX.out.csr.cell 2
          have k3 : X.cell? ⟨b, 3, none⟩ = some (.int .u64 a3) := HX.out.csr.cell 3
          have k4 : X.cell? ⟨b, 4, none⟩ = some (.int .u64 a4) := HX.out.csr.cell 4
          have k5 : X.cell? ⟨b, 5, none⟩ = some (.int .u64 a5) := HX.out.csr.cell 5
          have k6 : X.cell? ⟨b, 6, none⟩ = some (.int .u64 a6) := HX.out.csr.cell 6
          have k7 : X.cell? ⟨b, 7, none⟩ = some (.int .u64 a7) := HX.out.csr.cell 7
          have k8 : X.cell? ⟨b, 8, none⟩ = some (.int .u64 a8) := HX.out.csr.cell 8
          have k9 : X.cell? ⟨b, 9, none⟩ = some (.int .u64 a9) := HX.out.csr.cell 9
          have k10 : X.cell? ⟨b, 10, none⟩ = some (.int .u64 a10) := HX.out.csr.cell 10
          have k11 : X.cell? ⟨b, 11, none⟩ = some (.int .u64 a11) := HX.out.csr.cell 11
          have ltb := HX.out.csr.lt
          go_wp2_with fail
          refine (WK.out _ HX.out.mem).mono ?_
          rintro e w5 ⟨rfl, hG⟩
          clear k0 k1 k2 k3 k4 k5 k6 k7 k8 k9 k10 k11 ltb
          go_upto_region 14 with (fail)
          have hF := HX.out.keep (gr_trans hG (gr_alloc (gr_alloc (gr_refl w5 none) (.cells #[.int .u64 pt, .int .i64 lv, .bool gb] 52)) (.cells #[.bool isf, .int .i64 ca, .int .u64 vl] 48)))
          have hLr : Row ((w5.alloc (.cells #[.int .u64 pt, .int .i64 lv, .bool gb] 52)).alloc (.cells #[.bool isf, .int .i64 ca, .int .u64 vl] 48)) w5.heap.size 52 [.int .u64 pt, .int .i64 lv, .bool gb] := (Row.fresh w5 52 [.int .u64 pt, .int .i64 lv, .bool gb]).alloc _
          have hFr : Row ((w5.alloc (.cells #[.int .u64 pt, .int .i64 lv, .bool gb] 52)).alloc (.cells #[.bool isf, .int .i64 ca, .int .u64 vl] 48)) (w5.heap.size + 1) 48 [.bool isf, .int .i64 ca, .int .u64 vl] := rfresh2 w5 (.cells #[.int .u64 pt, .int .i64 lv, .bool gb] 52) 48 [.bool isf, .int .i64 ca, .int .u64 vl]
          clear hG HX
          generalize ((w5.alloc (.cells #[.int .u64 pt, .int .i64 lv, .bool gb] 52)).alloc (.cells #[.bool isf, .int .i64 ca, .int .u64 vl] 48)) = U6 at *
          generalize w5.heap.size = r at *
          obtain ⟨l0', l1', l2'⟩ := cells3q hLr
          obtain ⟨n0, n1, n2⟩ := cells3q hFr
          have lr := hLr.lt
          have ln := hFr.lt
          cases isf
          · obtain ⟨rfl, rfl⟩ := HCM.out.1 rfl
            obtain ⟨y1, y2, y3, y4⟩ := HMM.out HPG.out HCN.out HNO'.out rfl
            have HY := Lib.hid (And.intro y1 (And.intro y2 (And.intro y3 y4)))
            have HFF := Lib.hid hF
            have HLR := Lib.hid hLr
            have HFR := Lib.hid hFr
            obtain ⟨v6, hv6⟩ := hF.row
            have HV6 := Lib.hid hv6
            clear y1 y2 y3 y4 hF hLr hFr hv6
            go_wp2_with fail
            refine (PU.out _ _ HV6.out).mono ?_
            rintro e w7 ⟨rfl, hr, hG⟩
            have hF := HFF.out.turn hG hr
            have hLr := HLR.out.grown hG (some_ne (HLR.out.apart HV6.out.ptr (by decide)))
            have hFr := HFR.out.grown hG (some_ne (HFR.out.apart HV6.out.ptr (by decide)))
            clear hG hr HFF HLR HFR HV6 l0' l1' l2' n0 n1 n2 lr ln
            obtain ⟨l0', l1', l2'⟩ := cells3q hLr
            have lr := hLr.lt
            have HS := Lib.hid (And.intro hF hFr)
            clear hLr hF hFr
            go_upto_region 17 with (fail)
            obtain ⟨n0, n1, n2⟩ := cells3q HS.out.2
            obtain ⟨z0, z1, z2⟩ := cells3q HS.out.1.flt
            have fy := HS.out.1.flt.free
            have lt := HS.out.1.flt.lt
            have ln := HS.out.2.lt
            go_wp2_with fail
            go_region_with (first | (go_at_call 76; refine (AT.out _).mono ?_; rintro e w8 ⟨rfl, hg⟩; have hS8 := HS.out.1.keep (gr_trans (gr_drew (gr_refl w7 none)) hg); have hT8 := HS.out.2.grown (gr_trans (gr_drew (gr_refl w7 none)) hg) (by simp); obtain ⟨n0, n1, n2⟩ := cells3q hT8; obtain ⟨z0, z1, z2⟩ := cells3q hS8.flt; have fy := hS8.flt.free; have lt := hS8.flt.lt; have ln := hT8.lt; have HD := Lib.hid (hS8.done false 0 0); clear hS8 hT8 hg))
            all_goals
              go_wp2_with fail
              exact ret_IF (b := false) (c := 0) (v := 0) rfl rfl rfl rfl HD.out.1 ⟨by rw [HY.out.1, HY.out.2.1]; rfl, by rw [HY.out.2.2.1, HY.out.2.2.2]; exact HD.out.2⟩
          · obtain ⟨y1, y2, y3, y4⟩ := HMF.out HPG.out HCN.out HNO'.out rfl
            have HY := Lib.hid (And.intro y1 (And.intro y2 (And.intro y3 y4)))
            obtain ⟨z0, z1, z2⟩ := cells3q hF.flt
            have fy := hF.flt.free
            have lt := hF.flt.lt
            have dn := Lib.hid (hF.done true ca vl)
            clear y1 y2 y3 y4 hF hLr hFr l0' l1' l2' lr
            go_wp2_with fail
            go_region
            go_wp2_with fail
            exact ret_IF (b := true) (c := ca) (v := vl) rfl rfl rfl rfl (dn.out.1.grown (gr_drew (gr_refl _ none)) (by simp)) ⟨by rw [HY.out.1, HY.out.2.1]; rfl, by rw [HY.out.2.2.1, HY.out.2.2.2]; exact ⟨let ⟨v, hv⟩ := dn.out.2.1; ⟨v, hv.kept (gr_drew (gr_refl _ none))⟩, gr_drew dn.out.2.2⟩⟩
        · obtain ⟨k, x1, x2, x3⟩ := HQ5.out hfm
          obtain ⟨y1, y2, y3, y4⟩ := HHI.out k HPG.out HCN.out x1 (by rw [x2, HMY.out]; cases fd <;> cases my <;> first | rfl | cases hfm)
          rw [x2, x3] at y1
          have HY := Lib.hid (And.intro y1 (And.intro y2 (And.intro y3 y4)))
          clear hfm x1 x2 x3 y1 y2 y3 y4 k0 ltb
          go_wp2_with fail
          refine (AK.out _).mono ?_
          rintro e w4 ⟨rfl, hG⟩
          have hF := HFU.out.keep hG
          obtain ⟨z0, z1, z2⟩ := cells3q hF.flt
          have fy := hF.flt.free
          have lt := hF.flt.lt
          have dn := Lib.hid (hF.done false 0 0)
          clear hF hG HFU m0 m1 lq
          go_wp2_with fail
          exact ret_IF (b := false) (c := 0) (v := 0) rfl rfl rfl rfl dn.out.1 ⟨by rw [HY.out.1, HY.out.2.1]; rfl, by rw [HY.out.2.2.1, HY.out.2.2.2]; exact dn.out.2⟩
end Go.Proofs.Ytkfmcbhoendocaa
