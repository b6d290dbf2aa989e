/-
  The function that finds an address (space.Space.reals's own), rows of addresses: contracts over the program's translation.
  The addresses of an access's bytes (space.together, oneByOne, reals): contracts over the program's translation.
  The addresses of an access's bytes (space.reals): a contract over the program's translation.
  Conditions: each part's own: the arguments are numbers of their kinds; the tables hold what the program's text lays.
-/
import Derived.Test.YtkfmcbhoendocaaSpC
section
namespace Go.Proofs.Ytkfmcbhoendocaa
open Go Go.RowKit W M D A C P K
set_option linter.unusedVariables false

def wrds (l : List Int) : List Value := l.map (Value.int .u64)
theorem wrds_length (l : List Int) : (wrds l).length = l.length := by simp [wrds]
def vP (o : Option Nat) : Option Addr := o.map fun p => ⟨p, 0, none⟩
theorem vS_eq (pm : Nat) (t : Option Nat) : vS pm t = .agg #[.pointer (some ⟨pm, 0, none⟩), .pointer (vP t)] := rfl
theorem vT_eq (t : Option Nat) : vT t = .pointer (vP t) := rfl
/-- What the function has caught: the space, the registers, the privilege, the kind. -/
structure Bx (w : World) (b pm : Nat) (t : Option Nat) (c : Cs) (priv kind : Int) : Prop where
  spa : Row w b 81 [.pointer (some ⟨pm, 0, none⟩), vT t]
  csr : Row w (b + 1) 24 (lC c)
  pri : Row w (b + 2) 3 [.int .i64 priv]
  knd : Row w (b + 3) 3 [.int .i64 kind]
section
variable {w w' : World} {b pm gm : Nat} {t : Option Nat} {c : Cs} {priv kind : Int}
theorem Bx.keep (h : Bx w b pm t c priv kind) (hg : w.grownBy w' none) : Bx w' b pm t c priv kind := ⟨h.spa.grown hg (by simp), h.csr.grown hg (by simp), h.pri.grown hg (by simp), h.knd.grown hg (by simp)⟩
theorem Bx.fr {B : Nat} {bs : List Int} (h : Bx w b pm t c priv kind) (hm : RAt w pm gm bs) (hf : Fr B gm w w') : Bx w' b pm t c priv kind :=
  ⟨hf.row h.spa (by decide) (by decide) (h.spa.apart hm.row (by decide)), hf.row h.csr (by decide) (by decide) (h.csr.apart hm.row (by decide)), hf.row h.pri (by decide) (by decide) (h.pri.apart hm.row (by decide)), hf.row h.knd (by decide) (by decide) (h.knd.apart hm.row (by decide))⟩
theorem Bx.own {g : Nat} (h : Bx w b pm t c priv kind) (hg : w.grownBy w' (some g)) (hb : b + 3 < g) : Bx w' b pm t c priv kind := ⟨h.spa.grown hg (some_ne (by omega)), h.csr.grown hg (some_ne (by omega)), h.pri.grown hg (some_ne (by omega)), h.knd.grown hg (some_ne (by omega))⟩
end
set_option maxRecDepth 100000 in
set_option maxHeartbeats 4000000 in
theorem realTo_c (pm gm : Nat) (bs : List Int) (c : Cs) (hc : C.Good c) (priv kind va m : Int) (hp : I64 priv) (hk : I64 kind) (hv : B64 va) (hm : I64 m) (B : Nat) (t : Option Nat) (most : Nat) (n : Int) (L : List T.Lf) (b : Nat) (w : World) (hb : Bx w b pm t c priv kind) (h : Spc w B pm gm bs t most n L) :
    Calls Try.prog 112 #[.int .u64 va, .int .i64 m, .pointer (some ⟨b, 0, none⟩), .pointer (some ⟨b + 1, 0, none⟩), .pointer (some ⟨b + 2, 0, none⟩), .pointer (some ⟨b + 3, 0, none⟩)] w fun e w' => e = .returned (.tuple #[.int .u64 (S.sR bs L (gC c 9) (gC c 0) priv kind va m), vF (S.sF bs L (gC c 9) (gC c 0) priv kind va m)]) ∧ Spc w' B pm gm bs t most (T.toNV L n (gC c 9) (gC c 0) priv kind va) (T.toLV bs most L (gC c 9) (gC c 0) priv kind va) ∧ Fr B gm w w' := by
  have TO := Lib.hid (fun W hW => STo_c pm gm bs c hc priv kind va m hp hk hv hm B t most n L W hW)
  have hle := h.le
  have hg := gr_alloc (gr_refl w none) (.cells #[.bool false, .int .i64 0, .int .u64 0] 48)
  have HB := Lib.hid (hb.keep hg)
  have HS := Lib.hid (h.keep hg)
  have HZ := Lib.hid (Row.fresh w 48 [.bool false, .int .i64 0, .int .u64 0])
  have HG := Lib.hid (Fr.of_none hg B gm)
  generalize S.sR bs L (gC c 9) (gC c 0) priv kind va m = X at *
  generalize S.sF bs L (gC c 9) (gC c 0) priv kind va m = Y at *
  obtain ⟨pt, lv, gb, isf, ca, vl⟩ := Y
  unfold vF vFault at TO ⊢
  simp only at TO ⊢
  rw [vS_eq] at TO
  obtain ⟨a0, a1, a2, a3, a4, a5, a6, a7, a8, a9, a10, a11, rfl⟩ := twelve hc.1
  rw [show vC [a0, a1, a2, a3, a4, a5, a6, a7, a8, a9, a10, a11] = .agg #[.int .u64 a0, .int .u64 a1, .int .u64 a2, .int .u64 a3, .int .u64 a4, .int .u64 a5, .int .u64 a6, .int .u64 a7, .int .u64 a8, .int .u64 a9, .int .u64 a10, .int .u64 a11] from rfl] at *
  clear hc hb h hg
  unfold I64 at hp hk hm
  unfold B64 at hv
  go_enter Try.func112, Try.ntmps112
  go_upto_region 1 with (fail)
  replace HZ : Hid (Row (w.alloc (.cells #[.bool false, .int .i64 0, .int .u64 0] 48)) w.heap.size 48 [.bool false, .int .i64 0, .int .u64 0]) := HZ
  generalize w.alloc (.cells #[.bool false, .int .i64 0, .int .u64 0] 48) = V at *
  have hqe : w.heap.size ≤ w.heap.size := Nat.le_refl _
  have hF := Lib.hid (And.intro hqe hle)
  generalize hq : w.heap.size = q at hF ⊢
  rw [hq] at HZ
  have hqw := Lib.hid hq
  clear hq hqe hle
  have hB := HB.out
  have k0 : V.cell? ⟨b + 1, 0, none⟩ = some (.int .u64 a0) := hB.csr.cell 0
  have k1 : V.cell? ⟨b + 1, 1, none⟩ = some (.int .u64 a1) := hB.csr.cell 1
  have k2 : V.cell? ⟨b + 1, 2, none⟩ = some (.int .u64 a2) := hB.csr.cell 2
  have k3 : V.cell? ⟨b + 1, 3, none⟩ = some (.int .u64 a3) := hB.csr.cell 3
  have k4 : V.cell? ⟨b + 1, 4, none⟩ = some (.int .u64 a4) := hB.csr.cell 4
  have k5 : V.cell? ⟨b + 1, 5, none⟩ = some (.int .u64 a5) := hB.csr.cell 5
  have k6 : V.cell? ⟨b + 1, 6, none⟩ = some (.int .u64 a6) := hB.csr.cell 6
  have k7 : V.cell? ⟨b + 1, 7, none⟩ = some (.int .u64 a7) := hB.csr.cell 7
  have k8 : V.cell? ⟨b + 1, 8, none⟩ = some (.int .u64 a8) := hB.csr.cell 8
  have k9 : V.cell? ⟨b + 1, 9, none⟩ = some (.int .u64 a9) := hB.csr.cell 9
  have k10 : V.cell? ⟨b + 1, 10, none⟩ = some (.int .u64 a10) := hB.csr.cell 10
  have k11 : V.cell? ⟨b + 1, 11, none⟩ = some (.int .u64 a11) := hB.csr.cell 11
  have p0 : V.cell? ⟨b, 0, none⟩ = some (.pointer (some ⟨pm, 0, none⟩)) := hB.spa.cell 0
  have p1 : V.cell? ⟨b, 1, none⟩ = some (.pointer (vP t)) := hB.spa.cell 1
  have i0 : V.cell? ⟨b + 2, 0, none⟩ = some (.int .i64 priv) := hB.pri.cell 0
  have i1 : V.cell? ⟨b + 3, 0, none⟩ = some (.int .i64 kind) := hB.knd.cell 0
  have ltb := hB.knd.lt
  clear hB
  generalize vP t = o at *
  go_wp2_with fail
  refine (TO.out _ HS.out).mono ?_
  rintro e w1 ⟨rfl, hS, hFr⟩
  have hz1 := hFr.row HZ.out (by decide) (by decide) (HZ.out.apart HS.out.mem.row (by decide))
  obtain ⟨⟨z0, z1, z2⟩, fy, lt⟩ := fault_free hz1
  have dn := Lib.hid (fault_own hS (HG.out.trans hFr) hz1 (by rw [hqw.out]; exact Nat.le_refl _) (by have := hF.out; have := hqw.out; omega) (.bool isf) (.int .i64 ca) (.int .u64 vl))
  clear hS hFr hz1 HZ HS HB HG k0 k1 k2 k3 k4 k5 k6 k7 k8 k9 k10 k11 p0 p1 i0 i1 ltb TO
  go_wp2_with fail
  exact ret_IF (b := isf) (c := ca) (v := vl) rfl rfl rfl rfl dn.out.1 ⟨rfl, dn.out.2⟩
end Go.Proofs.Ytkfmcbhoendocaa
end

section
namespace Go.Proofs.Ytkfmcbhoendocaa
open Go Go.RowKit W M D A C P K
set_option linter.unusedVariables false

theorem u64_info : (Try.prog.info? 22).map (fun i => (i.zero, i.size, i.bytes)) = some (some (.int .u64 0), 1, 8) := by kernel_rfl
theorem made_wrds (n : Nat) : madeCells #[Value.int .u64 0] n = (wrds (List.replicate n 0)).toArray := by
  apply Array.ext
  · simp [madeCells, wrds]
  · intro i h1 h2
    simp [madeCells, wrds, Nat.mod_one]
theorem make_u64 (m : Nat) (hm : m ≤ 4096) (W : World) :
    (Instr.makeSlice 63 (.int .i64 (m : Int)) (.int .i64 (m : Int))).run Try.prog W = .ok (.slice (some ⟨W.heap.size, 0, none⟩) m m) (W.alloc (.cells (wrds (List.replicate m 0)).toArray 22)) := by
  have := run_make_row' (P := Try.prog) 63 22 (.int .u64 0) 8 Try.underlying63 u64_info rfl .i64 .i64 m (by omega) (by omega) W
  rwa [made_wrds] at this
/-- So far, and noughts behind it. -/
def pad (acc : List Int) (m : Nat) : List Int := acc ++ List.replicate (m - acc.length) 0
theorem pad_length {acc : List Int} {m : Nat} (h : acc.length ≤ m) : (pad acc m).length = m := by simp [pad]; omega
theorem pad_set {acc : List Int} {m : Nat} (h : acc.length < m) (y : Int) : (wrds (pad acc m)).set acc.length (.int .u64 y) = wrds (pad (acc ++ [y]) m) := by
  obtain ⟨k, hk⟩ : ∃ k, m - acc.length = k + 1 := ⟨m - acc.length - 1, by omega⟩
  have hk2 : m - (acc.length + 1) = k := by omega
  unfold wrds pad
  rw [List.length_append, List.length_singleton, hk, hk2, List.replicate_succ]
  simp
theorem pad_full (acc : List Int) : pad acc acc.length = acc := by simp [pad]
theorem pad_get {acc : List Int} {m : Nat} (h : acc.length < m) : (wrds (pad acc m))[acc.length]? = some (.int .u64 0) := by
  obtain ⟨k, hk⟩ : ∃ k, m - acc.length = k + 1 := ⟨m - acc.length - 1, by omega⟩
  unfold wrds pad
  rw [hk, List.replicate_succ]
  simp
theorem rowA_64 (x : Int) (m : Nat) : ∀ a ∈ S.rowA x m, B64 a := by
  intro a ha
  obtain ⟨i, -, rfl⟩ := List.mem_map.1 ha
  exact S.step_64 x i
theorem rowA_succ (x : Int) (i : Nat) : S.rowA x (i + 1) = S.rowA x i ++ [S.stepA x i] := by simp [S.rowA, List.range_succ]
/-- The slice has these addresses: none, or a new row. -/
def Adr (w : World) (v : Value) (all : List Int) (lo : Nat) : Prop :=
  (all = [] ∧ v = .slice none 0 0) ∨ ∃ g, v = .slice (some ⟨g, 0, none⟩) all.length all.length ∧ Row w g 22 (wrds all) ∧ lo ≤ g ∧ (∀ a ∈ all, B64 a) ∧ all.length ≤ 8
def Gave (w : World) (B pm gm : Nat) (bs : List Int) (t : Option Nat) (most : Nat) (r : S.Ans) (e : Ending) (w' : World) : Prop :=
  ∃ v, e = .returned (.tuple #[v, vF r.f]) ∧ Adr w' v r.all w.heap.size ∧ Spc w' B pm gm bs t most r.n r.L ∧ Fr B gm w w'
theorem Adr.own {w w' : World} {v : Value} {all : List Int} {lo g : Nat} {l : List Value} (h : Adr w v all lo) (hr : Row w g 48 l) (hg : w.grownBy w' (some g)) : Adr w' v all lo := by
  rcases h with h | ⟨k, h1, h2, h3⟩
  · exact .inl h
  · exact .inr ⟨k, h1, h2.grown hg (some_ne (h2.apart hr (by decide))), h3⟩
/-- The space stands behind a step of the call's own. -/
theorem Spc.mine {w w' : World} {B pm gm : Nat} {bs : List Int} {t : Option Nat} {most : Nat} {n : Int} {L : List T.Lf} {g : Nat} {l : List Value} (h : Spc w B pm gm bs t most n L) (hr : Row w g 22 l) (hg : w.grownBy w' (some g)) : Spc w' B pm gm bs t most n L :=
  h.set hr (by decide) (by decide) (by decide) (by decide) hg

set_option maxRecDepth 100000 in
set_option maxHeartbeats 4000000 in
theorem together_c (pm gm : Nat) (bs : List Int) (c : Cs) (hc : C.Good c) (priv kind va : Int) (m : Nat) (hp : I64 priv) (hk : I64 kind) (hv : B64 va) (hm : 1 ≤ m ∧ m ≤ 8) (B : Nat) (t : Option Nat) (most : Nat) (n : Int) (L : List T.Lf) (b : Nat) (w : World) (hb : Bx w b pm t c priv kind) (h : Spc w B pm gm bs t most n L) :
    Calls Try.prog 113 #[.func (.func 112) #[] #[.pointer (some ⟨b, 0, none⟩), .pointer (some ⟨b + 1, 0, none⟩), .pointer (some ⟨b + 2, 0, none⟩), .pointer (some ⟨b + 3, 0, none⟩)], .int .u64 va, .int .i64 m] w (Gave w B pm gm bs t most (S.togV bs most (gC c 9) (gC c 0) priv kind va m L n)) := by
  have TO := Lib.hid (fun W hB hW => realTo_c pm gm bs c hc priv kind va m hp hk hv (by unfold I64; omega) B t most n L b W hB hW)
  have hle := h.le
  have hx64 := toR_64 (sa := gC c 9) (st := gC c 0) (priv := priv) (kind := kind) h.tl.fine h.mem.byt hv
  have hy64 := S.sR_64 (n := (m : Int)) hx64
  have hg := gr_alloc (gr_refl w none) (.cells #[.bool false, .int .i64 0, .int .u64 0] 48)
  have HB := Lib.hid (hb.keep hg)
  have HS := Lib.hid (h.keep hg)
  have HZ := Lib.hid (Row.fresh w 48 [.bool false, .int .i64 0, .int .u64 0])
  have HG := Lib.hid (Fr.of_none hg B gm)
  have hcalm := sF_calm bs L (gC c 9) (gC c 0) priv kind va m
  unfold S.togV
  generalize S.sR bs L (gC c 9) (gC c 0) priv kind va m = X at *
  generalize S.sF bs L (gC c 9) (gC c 0) priv kind va m = Y at *
  generalize T.toLV bs most L (gC c 9) (gC c 0) priv kind va = L' at *
  generalize T.toNV L n (gC c 9) (gC c 0) priv kind va = n' at *
  obtain ⟨pt, lv, gb, isf, ca, vl⟩ := Y
  unfold K.Calm at hcalm
  simp only at hcalm
  have HCM := Lib.hid hcalm
  obtain ⟨r, hr⟩ : ∃ r : S.Ans, r = ⟨⟨pt, lv, gb, isf, ca, vl⟩, if isf = true then [] else S.rowA X m, L', n'⟩ := ⟨_, rfl⟩
  rw [← hr]
  have HR := Lib.hid hr
  unfold vF vFault at TO
  simp only at TO
  clear hc hb h hg hr hx64 hcalm
  unfold I64 at hp hk
  unfold B64 at hv hy64
  have MK := Lib.hid (make_u64 m (by omega))
  obtain ⟨q, hq⟩ : ∃ q, q = w.heap.size := ⟨_, rfl⟩
  have HQ := Lib.hid hq
  rw [← hq] at HZ hle
  go_enter Try.func113, Try.ntmps113
  go_upto_region 1 with (fail)
  rw [← hq]
  replace HZ : Hid (Row (w.alloc (.cells #[.bool false, .int .i64 0, .int .u64 0] 48)) q 48 [.bool false, .int .i64 0, .int .u64 0]) := HZ
  generalize w.alloc (.cells #[.bool false, .int .i64 0, .int .u64 0] 48) = V at *
  clear hq
  go_wp2_with fail
  refine (TO.out _ HB.out HS.out).mono ?_
  rintro e w1 ⟨rfl, hS, hFr⟩
  have hz1 := hFr.row HZ.out (by decide) (by decide) (HZ.out.apart HS.out.mem.row (by decide))
  have hf1 := HG.out.trans hFr
  have hg := gr_alloc (gr_refl w1 none) (.cells #[.bool isf, .int .i64 ca, .int .u64 vl] 48)
  have u1 := Row.fresh w1 48 [.bool isf, .int .i64 ca, .int .u64 vl]
  replace hz1 := hz1.grown hg (by simp)
  replace hS := hS.keep hg
  replace hf1 := hf1.trans (Fr.of_none hg B gm)
  have ltq : q < w1.heap.size := by have := hFr.size; have := HZ.out.lt; omega
  clear hFr HZ HS HB HG TO hg
  go_upto_region 2 with (fail)
  replace u1 : Row (w1.alloc (.cells #[.bool isf, .int .i64 ca, .int .u64 vl] 48)) w1.heap.size 48 [.bool isf, .int .i64 ca, .int .u64 vl] := u1
  generalize w1.alloc (.cells #[.bool isf, .int .i64 ca, .int .u64 vl] 48) = U at *
  generalize w1.heap.size = u at *
  obtain ⟨⟨l0, l1, l2⟩, -, lu⟩ := fault_free u1
  cases isf
  · obtain ⟨rfl, rfl⟩ := HCM.out.1 rfl
    have HF := Lib.hid (And.intro hS (And.intro hf1 hz1))
    clear hS hf1 hz1 u1
    go_upto_region 4 with (fail)
    have mk := MK.out U
    have hg := gr_alloc (gr_refl U none) (.cells (wrds (List.replicate m 0)).toArray 22)
    have HN := Lib.hid (And.intro (HF.out.1.keep hg) (And.intro (HF.out.2.1.trans (Fr.of_none hg B gm)) (And.intro (HF.out.2.2.grown hg (by simp)) (And.intro (Row.fresh U 22 (wrds (List.replicate m 0))) (show u < U.heap.size from lu)))))
    clear hg HF MK l0 l1 l2 lu
    go_upto_region 5 with (fail)
    clear mk
    generalize U.alloc (.cells (wrds (List.replicate m 0)).toArray 22) = N at *
    generalize U.heap.size = g at *
    obtain ⟨hS, hf1, hz1, hrow, hug⟩ := HN.out
    have HS := Lib.hid hS
    have HF := Lib.hid hf1
    have HZ := Lib.hid hz1
    have HW := Lib.hid hrow
    clear HN hS hf1 hz1 hrow
    go_wp2_with fail
    go_loopw [25] (fun x wr => ∃ i : Nat, x = .int .i64 i ∧ i ≤ m ∧ Row wr g 22 (wrds (pad (S.rowA X i) m)) ∧ N.grownBy wr (some g)) (fun x _ => m - (intOf x).toNat)
    case atStart => exact ⟨0, rfl, Nat.zero_le _, by simpa [pad, S.rowA] using HW.out, gr_refl _ _⟩
    case round =>
      obtain ⟨i, rfl, hi, hw, hG⟩ := hrel
      have hlen := S.rowA_length X i
      by_cases hlt : i < m
      · have hc0 : wr.cell? ⟨g, i, none⟩ = some (.int .u64 0) := by rw [hw.cell]; have := pad_get (acc := S.rowA X i) (m := m) (by omega); rwa [hlen] at this
        have hfree := hw.free i
        have hn := hw.put i (.int .u64 (S.stepA X i))
        have hps := pad_set (acc := S.rowA X i) (m := m) (by omega) (S.stepA X i)
        rw [hlen] at hps
        rw [hps, ← rowA_succ] at hn
        have hst : (X + (i : Int)) % 18446744073709551616 = S.stepA X i := rfl
        have HN := Lib.hid (And.intro hn (gr_set (i := i) hG (.int .u64 (S.stepA X i))))
        have lt := hw.lt
        clear hn hps hw hG
        go_wp2_with fail
        go_roundw
        case rel => exact ⟨i + 1, by go_num, by omega, HN.out.1, HN.out.2⟩
        case measure => simp [intOf]; omega
      · obtain rfl : i = m := by omega
        have hz := HZ.out.grown hG (some_ne (HZ.out.apart HW.out (by decide)))
        have hs := HS.out.mine HW.out hG
        have hfr := HF.out.own hG (by have := HS.out.own; have := HQ.out; have := HF.out.size; omega) (by have := HQ.out; omega)
        obtain ⟨⟨z0, z1, z2⟩, fy, lt⟩ := fault_free hz
        have dn := Lib.hid (fault_own hs hfr hz (by rw [← HQ.out]; exact Nat.le_refl _) (by rw [← HQ.out]; exact hle) (.bool false) (.int .i64 0) (.int .u64 0))
        have hpd := pad_full (S.rowA X i)
        rw [hlen] at hpd
        rw [hpd] at hw
        have HWW := Lib.hid (And.intro hw (And.intro (hw.apart hz (by decide)) (gr_set3 wr q (.bool false) (.int .i64 0) (.int .u64 0))))
        clear hz hs hfr hw hpd
        go_wp2_with fail
        refine ret_IF (b := false) (c := 0) (v := 0) rfl rfl rfl rfl dn.out.1 ?_
        rw [HR.out]
        refine ⟨.slice (some ⟨g, 0, none⟩) i i, rfl, ?_, dn.out.2⟩
        refine .inr ⟨g, by simp [hlen], ?_, by have := HQ.out; omega, by intro a ha; exact rowA_64 X i a (by simpa using ha), by simp [hlen]; omega⟩
        exact HWW.out.1.grown HWW.out.2.2 (some_ne HWW.out.2.1)
  · obtain ⟨⟨z0, z1, z2⟩, fy, lt⟩ := fault_free hz1
    have dn := Lib.hid (fault_own hS hf1 hz1 (by rw [← HQ.out]; exact Nat.le_refl _) (by rw [← HQ.out]; exact hle) (.bool true) (.int .i64 ca) (.int .u64 vl))
    clear hz1 hS hf1 u1
    go_wp2_with fail
    go_region
    go_wp2_with fail
    refine ret_IF (b := true) (c := ca) (v := vl) rfl rfl rfl rfl dn.out.1 ?_
    rw [HR.out]
    exact ⟨_, rfl, .inl ⟨rfl, rfl⟩, dn.out.2.1.drew, dn.out.2.2.drew⟩

theorem run_hit {bs : List Int} {most : Nat} {sa st priv kind va : Int} {k i : Nat} {L : List T.Lf} {n : Int} (acc : List Int) (h : (S.sF bs L sa st priv kind (S.stepA va i) 1).isf = true) :
    S.inFront acc (S.runV bs most sa st priv kind va (k + 1) i L n) = ⟨S.sF bs L sa st priv kind (S.stepA va i) 1, [], T.toLV bs most L sa st priv kind (S.stepA va i), T.toNV L n sa st priv kind (S.stepA va i)⟩ := by
  rw [S.runV, if_pos h]
  unfold S.inFront
  rw [if_pos h]
theorem run_on {bs : List Int} {most : Nat} {sa st priv kind va : Int} {k i : Nat} {L : List T.Lf} {n : Int} (acc : List Int) (h : (S.sF bs L sa st priv kind (S.stepA va i) 1).isf = false) :
    S.inFront acc (S.runV bs most sa st priv kind va (k + 1) i L n) = S.inFront (acc ++ [S.sR bs L sa st priv kind (S.stepA va i) 1]) (S.runV bs most sa st priv kind va k (i + 1) (T.toLV bs most L sa st priv kind (S.stepA va i)) (T.toNV L n sa st priv kind (S.stepA va i))) := by
  rw [S.runV, if_neg (by rw [h]; decide)]
  generalize S.runV bs most sa st priv kind va k (i + 1) _ _ = r
  unfold S.inFront
  cases hf : r.f.isf
  · simp [hf]
  · simp [hf]
set_option maxRecDepth 100000 in
set_option maxHeartbeats 4000000 in
theorem oneByOne_c (pm gm : Nat) (bs : List Int) (c : Cs) (hc : C.Good c) (priv kind va : Int) (m : Nat) (hp : I64 priv) (hk : I64 kind) (hv : B64 va) (hm : 1 ≤ m ∧ m ≤ 8) (B : Nat) (t : Option Nat) (most : Nat) (n : Int) (L : List T.Lf) (b : Nat) (w : World) (hb : Bx w b pm t c priv kind) (h : Spc w B pm gm bs t most n L) :
    Calls Try.prog 114 #[.func (.func 112) #[] #[.pointer (some ⟨b, 0, none⟩), .pointer (some ⟨b + 1, 0, none⟩), .pointer (some ⟨b + 2, 0, none⟩), .pointer (some ⟨b + 3, 0, none⟩)], .int .u64 va, .int .i64 m] w (Gave w B pm gm bs t most (S.runV bs most (gC c 9) (gC c 0) priv kind va m 0 L n)) := by
  have TO := Lib.hid (fun i n L W hB hW => realTo_c pm gm bs c hc priv kind (S.stepA va i) 1 hp hk (S.step_64 va i) (by unfold I64; omega) B t most n L b W hB hW)
  have hle := h.le
  have hg := gr_alloc (gr_refl w none) (.cells #[.bool false, .int .i64 0, .int .u64 0] 48)
  have HB := Lib.hid (hb.keep hg)
  have HS := Lib.hid (h.keep hg)
  have HZ := Lib.hid (Row.fresh w 48 [.bool false, .int .i64 0, .int .u64 0])
  have HG := Lib.hid (Fr.of_none hg B gm)
  have HCM := Lib.hid (fun L va => sF_calm bs L (gC c 9) (gC c 0) priv kind va 1)
  obtain ⟨r, hr⟩ : ∃ r : S.Ans, r = S.runV bs most (gC c 9) (gC c 0) priv kind va m 0 L n := ⟨_, rfl⟩
  rw [← hr]
  have HR := Lib.hid hr
  have HIT := Lib.hid (fun k i L n acc h => run_hit (bs := bs) (most := most) (sa := gC c 9) (st := gC c 0) (priv := priv) (kind := kind) (va := va) (k := k) (i := i) (L := L) (n := n) acc h)
  have HON := Lib.hid (fun k i L n acc h => run_on (bs := bs) (most := most) (sa := gC c 9) (st := gC c 0) (priv := priv) (kind := kind) (va := va) (k := k) (i := i) (L := L) (n := n) acc h)
  unfold vF vFault at TO
  clear hc hb h hg hr
  unfold I64 at hp hk
  unfold B64 at hv
  have MK := Lib.hid (make_u64 m (by omega))
  obtain ⟨q, hq⟩ : ∃ q, q = w.heap.size := ⟨_, rfl⟩
  have HQ := Lib.hid hq
  rw [← hq] at HZ hle
  go_enter Try.func114, Try.ntmps114
  go_upto_region 1 with (fail)
  rw [← hq]
  replace HZ : Hid (Row (w.alloc (.cells #[.bool false, .int .i64 0, .int .u64 0] 48)) q 48 [.bool false, .int .i64 0, .int .u64 0]) := HZ
  generalize w.alloc (.cells #[.bool false, .int .i64 0, .int .u64 0] 48) = V at *
  clear hq
  have mk := MK.out V
  have hg := gr_alloc (gr_refl V none) (.cells (wrds (List.replicate m 0)).toArray 22)
  have HN := Lib.hid (And.intro (HS.out.keep hg) (And.intro (HG.out.trans (Fr.of_none hg B gm)) (And.intro (HZ.out.grown hg (by simp)) (And.intro (Row.fresh V 22 (wrds (List.replicate m 0))) (And.intro (HB.out.keep hg) (show q < V.heap.size from HZ.out.lt))))))
  clear hg HS HG HB HZ MK
  go_upto_region 2 with (fail)
  clear mk
  generalize V.alloc (.cells (wrds (List.replicate m 0)).toArray 22) = N at *
  generalize V.heap.size = g at *
  go_wp2_with fail
  go_loopw [15] (fun x wr => ∃ (i : Nat) (acc : List Int) (L' : List T.Lf) (n' : Int), x = .int .i64 i ∧ i ≤ m ∧ acc.length = i ∧ (∀ a ∈ acc, B64 a) ∧ r = S.inFront acc (S.runV bs most (gC c 9) (gC c 0) priv kind va (m - i) i L' n') ∧ Row wr g 22 (wrds (pad acc m)) ∧ Row wr q 48 [.bool false, .int .i64 0, .int .u64 0] ∧ Bx wr b pm t c priv kind ∧ Spc wr B pm gm bs t most n' L' ∧ Fr B gm w wr) (fun x _ => m - (intOf x).toNat)
  case atStart => exact ⟨0, [], L, n, rfl, Nat.zero_le _, rfl, (by intro a ha; cases ha), by rw [HR.out, S.inFront_nil]; rfl, by simpa [pad] using HN.out.2.2.2.1, HN.out.2.2.1, HN.out.2.2.2.2.1, HN.out.1, HN.out.2.1⟩
  case round =>
    obtain ⟨i, acc, L', n', rfl, hi, hlen, h64, hrr, hw, hz, hB, hS, hF⟩ := hrel
    by_cases hlt : i < m
    · obtain ⟨k, hk'⟩ : ∃ k, m - i = k + 1 := ⟨m - i - 1, by omega⟩
      rw [hk'] at hrr
      have hst : (va + (i : Int)) % 18446744073709551616 = S.stepA va i := rfl
      have T1 := Lib.hid (TO.out (i : Int) n' L' wr hB hS)
      have H64 := Lib.hid (And.intro h64 (S.sR_64 (n := 1) (toR_64 (sa := gC c 9) (st := gC c 0) (priv := priv) (kind := kind) hS.tl.fine hS.mem.byt (S.step_64 va i))))
      clear h64
      have HI := Lib.hid (HIT.out k i L' n' acc)
      have HO := Lib.hid (HON.out k i L' n' acc)
      have HC := Lib.hid (HCM.out L' (S.stepA va i))
      have HRR := Lib.hid hrr
      have HS1 := Lib.hid hS
      have HK := Lib.hid (And.intro hw (And.intro hz (And.intro hB hF)))
      clear hrr hw hz hB hS hF
      generalize S.sF bs L' (gC c 9) (gC c 0) priv kind (S.stepA va i) 1 = Y at *
      generalize S.sR bs L' (gC c 9) (gC c 0) priv kind (S.stepA va i) 1 = X at *
      obtain ⟨pt, lv, gb, isf, ca, vl⟩ := Y
      generalize T.toLV bs most L' (gC c 9) (gC c 0) priv kind (S.stepA va i) = L1 at *
      generalize T.toNV L' n' (gC c 9) (gC c 0) priv kind (S.stepA va i) = n1 at *
      simp only at T1
      have HCC := HC.out
      unfold K.Calm at HCC
      simp only at HCC
      have HCD := Lib.hid HCC
      clear HCC HC
      go_wp2_with fail
      refine T1.out.mono ?_
      rintro e w1 ⟨rfl, hS, hFr⟩
      obtain ⟨hw, hz, hB, hF⟩ := HK.out
      have hg := gr_alloc (gr_refl w1 none) (.cells #[.bool isf, .int .i64 ca, .int .u64 vl] 48)
      have hw1 := (hFr.row hw (by decide) (by decide) (hw.apart HS1.out.mem.row (by decide))).grown hg (by simp)
      have hz1 := (hFr.row hz (by decide) (by decide) (hz.apart HS1.out.mem.row (by decide))).grown hg (by simp)
      have hB1 := (hB.fr HS1.out.mem hFr).keep hg
      have hF1 := (hF.trans hFr).trans (Fr.of_none hg B gm)
      replace hS := hS.keep hg
      have u1 := Row.fresh w1 48 [.bool isf, .int .i64 ca, .int .u64 vl]
      have ltg : g < w1.heap.size := by have := hFr.size; have := hw.lt; omega
      clear HK HS1 T1 hw hz hB hF hFr hg
      go_upto_region 6 with (fail)
      replace u1 : Row (w1.alloc (.cells #[.bool isf, .int .i64 ca, .int .u64 vl] 48)) w1.heap.size 48 [.bool isf, .int .i64 ca, .int .u64 vl] := u1
      generalize w1.alloc (.cells #[.bool isf, .int .i64 ca, .int .u64 vl] 48) = U at *
      generalize w1.heap.size = u at *
      obtain ⟨⟨l0, l1, l2⟩, -, lu⟩ := fault_free u1
      cases isf
      · have hc0 : U.cell? ⟨g, i, none⟩ = some (.int .u64 0) := by rw [hw1.cell]; have := pad_get (acc := acc) (m := m) (by omega); rwa [hlen] at this
        have hfree := hw1.free i
        have hn := hw1.put i (.int .u64 X)
        have hps := pad_set (acc := acc) (m := m) (by omega) X
        rw [hlen] at hps
        rw [hps] at hn
        have hgs := gr_set (i := i) (gr_refl U (some g)) (.int .u64 X)
        have HN2 := Lib.hid (And.intro hn (And.intro (hz1.grown hgs (some_ne (hz1.apart hw1 (by decide)))) (And.intro (show Bx (U.setCell ⟨g, i, none⟩ (.int .u64 X)) b pm t c priv kind from ⟨hB1.spa.grown hgs (some_ne (hB1.spa.apart hw1 (by decide))), hB1.csr.grown hgs (some_ne (hB1.csr.apart hw1 (by decide))), hB1.pri.grown hgs (some_ne (hB1.pri.apart hw1 (by decide))), hB1.knd.grown hgs (some_ne (hB1.knd.apart hw1 (by decide)))⟩)
          (And.intro (hS.mine hw1 hgs) (hF1.own hgs (by have := HQ.out; have := HN.out.2.2.2.2.2; omega) (by have := HQ.out; have := HN.out.2.2.2.2.2; omega))))))
        have lt := hw1.lt
        clear hn hps hw1 hz1 hB1 hS hF1 hgs u1
        go_wp2_with fail
        go_roundw
        case rel => exact ⟨i + 1, acc ++ [X], L1, n1, by go_num, by omega, by simp [hlen], by intro a ha; rcases List.mem_append.1 ha with ha | ha; exact H64.out.1 a ha; (rw [List.mem_singleton.1 ha]; exact H64.out.2), by rw [HRR.out, HO.out rfl, show m - (i + 1) = k by omega], HN2.out.1, HN2.out.2.1, HN2.out.2.2.1, HN2.out.2.2.2.1, HN2.out.2.2.2.2⟩
        case measure => simp [intOf]; omega
      · obtain ⟨⟨z0, z1, z2⟩, fy, lt⟩ := fault_free hz1
        have dn := Lib.hid (fault_own hS hF1 hz1 (by rw [← HQ.out]; exact Nat.le_refl _) (by rw [← HQ.out]; exact hle) (.bool true) (.int .i64 ca) (.int .u64 vl))
        clear hz1 hS hF1 u1 hw1 hB1
        go_wp2_with fail
        go_region
        go_wp2_with fail
        refine ret_IF (b := true) (c := ca) (v := vl) rfl rfl rfl rfl dn.out.1 ?_
        rw [HRR.out, HI.out (by first | rfl | trivial)]
        exact ⟨_, rfl, .inl ⟨rfl, rfl⟩, dn.out.2.1.drew, dn.out.2.2.drew⟩
    · obtain rfl : i = m := by omega
      have hpd := pad_full acc
      rw [hlen] at hpd
      rw [hpd] at hw
      rw [Nat.sub_self] at hrr
      obtain ⟨⟨z0, z1, z2⟩, fy, lt⟩ := fault_free hz
      have dn := Lib.hid (fault_own hS hF hz (by rw [← HQ.out]; exact Nat.le_refl _) (by rw [← HQ.out]; exact hle) (.bool false) (.int .i64 0) (.int .u64 0))
      have HWW := Lib.hid (And.intro hw (And.intro (hw.apart hz (by decide)) (gr_set3 wr q (.bool false) (.int .i64 0) (.int .u64 0))))
      have HRR := Lib.hid hrr
      have H64 := Lib.hid h64
      clear h64
      clear hz hS hF hw hpd hB hrr
      go_wp2_with fail
      refine ret_IF (b := false) (c := 0) (v := 0) rfl rfl rfl rfl dn.out.1 ?_
      rw [HRR.out]
      refine ⟨.slice (some ⟨g, 0, none⟩) i i, rfl, ?_, dn.out.2⟩
      have he : (S.inFront acc (S.runV bs most (gC c 9) (gC c 0) priv kind va 0 i L' n')).all = acc := by unfold S.inFront S.runV; simp [foundV]
      rw [he]
      refine .inr ⟨g, by rw [hlen], ?_, by have := HQ.out; have := HN.out.2.2.2.2.2; omega, H64.out, by omega⟩
      exact HWW.out.1.grown HWW.out.2.2 (some_ne HWW.out.2.1)
end Go.Proofs.Ytkfmcbhoendocaa
end

section
namespace Go.Proofs.Ytkfmcbhoendocaa
open Go Go.RowKit W M D A C P K
set_option linter.unusedVariables false

theorem sWidth_c (n : Int) (hn : I64 n) (w : World) :
    Calls Try.prog 111 #[.int .i64 n] w fun e w' => e = .returned (.bool (widB n)) ∧ w = w' := by
  unfold I64 at hn
  by_cases h : n = 1 ∨ n = 2 ∨ n = 4 ∨ n = 8
  · rcases h with rfl | rfl | rfl | rfl
    all_goals
      go_enter Try.func111, Try.ntmps111
      go_wp2_with fail
      go_ret
      exact ⟨rfl, rfl⟩
  · have e : widB n = false := by unfold widB; simpa using h
    rw [e]
    have d1 : (n == 1) = false := by simp; omega
    have d2 : (n == 2) = false := by simp; omega
    have d4 : (n == 4) = false := by simp; omega
    have d8 : (n == 8) = false := by simp; omega
    clear h e
    go_enter Try.func111, Try.ntmps111
    go_wp2_with fail
    go_ret
    exact ⟨rfl, rfl⟩
theorem Bx.start (w : World) (pm : Nat) (t : Option Nat) (c : Cs) (priv kind : Int) :
    Bx ((((w.alloc (.cells #[.pointer (some ⟨pm, 0, none⟩), vT t] 81)).alloc (.cells (lC c).toArray 24)).alloc (.cells #[.int .i64 priv] 3)).alloc (.cells #[.int .i64 kind] 3)) w.heap.size pm t c priv kind ∧
    ((((w.alloc (.cells #[.pointer (some ⟨pm, 0, none⟩), vT t] 81)).alloc (.cells (lC c).toArray 24)).alloc (.cells #[.int .i64 priv] 3)).alloc (.cells #[.int .i64 kind] 3)).heap.size = w.heap.size + 4 := by
  have a0 := Row.fresh w 81 [.pointer (some ⟨pm, 0, none⟩), vT t]
  obtain ⟨w1, h1⟩ : ∃ w1, w1 = w.alloc (.cells #[.pointer (some ⟨pm, 0, none⟩), vT t] 81) := ⟨_, rfl⟩
  have s1 : w1.heap.size = w.heap.size + 1 := by rw [h1]; exact Array.size_push ..
  have a1 := Row.fresh w1 24 (lC c)
  obtain ⟨w2, h2⟩ : ∃ w2, w2 = w1.alloc (.cells (lC c).toArray 24) := ⟨_, rfl⟩
  have s2 : w2.heap.size = w.heap.size + 2 := by rw [h2]; exact (Array.size_push ..).trans (by rw [s1])
  have a2 := Row.fresh w2 3 [.int .i64 priv]
  obtain ⟨w3, h3⟩ : ∃ w3, w3 = w2.alloc (.cells #[.int .i64 priv] 3) := ⟨_, rfl⟩
  have s3 : w3.heap.size = w.heap.size + 3 := by rw [h3]; exact (Array.size_push ..).trans (by rw [s2])
  have a3 := Row.fresh w3 3 [.int .i64 kind]
  rw [s1] at a1
  rw [s2] at a2
  rw [s3] at a3
  subst h1
  subst h2
  subst h3
  exact ⟨⟨((a0.alloc _).alloc _).alloc _, (a1.alloc _).alloc _, a2.alloc _, a3⟩, (Array.size_push ..).trans (by rw [s3])⟩
set_option maxRecDepth 100000 in
set_option maxHeartbeats 4000000 in
theorem reals_c (pm gm : Nat) (bs : List Int) (c : Cs) (hc : C.Good c) (priv kind va : Int) (m : Nat) (hp : I64 priv) (hk : I64 kind) (hv : B64 va) (hm : m = 1 ∨ m = 2 ∨ m = 4 ∨ m = 8) (B : Nat) (t : Option Nat) (most : Nat) (n : Int) (L : List T.Lf) (w : World) (h : Spc w B pm gm bs t most n L) :
    Calls Try.prog 82 #[vS pm t, vC c, .int .i64 priv, .int .i64 kind, .int .u64 va, .int .i64 m] w (Gave w B pm gm bs t most (S.realsV bs most (gC c 9) (gC c 0) priv kind va m L n)) := by
  have hm8 : 1 ≤ m ∧ m ≤ 8 := by omega
  have TG := Lib.hid (fun b W hB hW => together_c pm gm bs c hc priv kind va m hp hk hv hm8 B t most n L b W hB hW)
  have ON := Lib.hid (fun b W hB hW => oneByOne_c pm gm bs c hc priv kind va m hp hk hv hm8 B t most n L b W hB hW)
  have WD := Lib.hid (fun W => sWidth_c (m : Int) (by unfold I64; omega) W)
  have hwd : widB (m : Int) = true := by unfold widB; simp; omega
  rw [hwd] at WD
  have hle := h.le
  obtain ⟨hb, hs4⟩ := Bx.start w pm t c priv kind
  have hg := gr_alloc (gr_alloc (gr_alloc (gr_alloc (gr_refl w none) (.cells #[.pointer (some ⟨pm, 0, none⟩), vT t] 81)) (.cells (lC c).toArray 24)) (.cells #[.int .i64 priv] 3)) (.cells #[.int .i64 kind] 3)
  obtain ⟨W4, hW4⟩ : ∃ W4, W4 = ((((w.alloc (.cells #[.pointer (some ⟨pm, 0, none⟩), vT t] 81)).alloc (.cells (lC c).toArray 24)).alloc (.cells #[.int .i64 priv] 3)).alloc (.cells #[.int .i64 kind] 3)) := ⟨_, rfl⟩
  rw [← hW4] at hb hs4 hg
  have hz := Row.fresh W4 48 [.bool false, .int .i64 0, .int .u64 0]
  have hg5 := gr_alloc (gr_refl W4 none) (.cells #[.bool false, .int .i64 0, .int .u64 0] 48)
  have HB := Lib.hid (hb.keep hg5)
  have HS := Lib.hid (h.keep (gr_trans hg hg5))
  have HF := Lib.hid (Fr.of_none (gr_trans hg hg5) B gm)
  rw [hs4] at hz
  have HZ := Lib.hid hz
  have hs5 : (W4.alloc (.cells #[.bool false, .int .i64 0, .int .u64 0] 48)).heap.size = w.heap.size + 5 := (Array.size_push ..).trans (by rw [hs4])
  have HS5 := Lib.hid hs5
  unfold S.realsV
  generalize S.togV bs most (gC c 9) (gC c 0) priv kind va m L n = r1 at *
  generalize S.runV bs most (gC c 9) (gC c 0) priv kind va m 0 L n = r2 at *
  obtain ⟨r, hr⟩ : ∃ r, r = (if va % (m : Int) = 0 then r1 else r2) := ⟨_, rfl⟩
  rw [← hr]
  have HRR := Lib.hid hr
  clear hr
  clear hb hs4 hg hz hg5 hs5 h
  rw [vS_eq]
  rw [vT_eq] at hW4
  obtain ⟨a0, a1, a2, a3, a4, a5, a6, a7, a8, a9, a10, a11, rfl⟩ := twelve hc.1
  rw [show vC [a0, a1, a2, a3, a4, a5, a6, a7, a8, a9, a10, a11] = .agg #[.int .u64 a0, .int .u64 a1, .int .u64 a2, .int .u64 a3, .int .u64 a4, .int .u64 a5, .int .u64 a6, .int .u64 a7, .int .u64 a8, .int .u64 a9, .int .u64 a10, .int .u64 a11] from rfl] at *
  rw [show lC [a0, a1, a2, a3, a4, a5, a6, a7, a8, a9, a10, a11] = [.int .u64 a0, .int .u64 a1, .int .u64 a2, .int .u64 a3, .int .u64 a4, .int .u64 a5, .int .u64 a6, .int .u64 a7, .int .u64 a8, .int .u64 a9, .int .u64 a10, .int .u64 a11] from rfl] at hW4
  clear hc
  unfold I64 at hp hk
  unfold B64 at hv
  obtain ⟨q, hq⟩ : ∃ q, q = w.heap.size := ⟨_, rfl⟩
  have HQ := Lib.hid hq
  rw [← hq] at HB HZ HS5 hle
  go_enter Try.func82, Try.ntmps82
  go_upto_region 1 with (fail)
  rw [← hq]
  have hV : W4.alloc (.cells #[.bool false, .int .i64 0, .int .u64 0] 48) = (((((w.alloc (.cells #[.pointer (some ⟨pm, 0, none⟩), .pointer (vP t)] 81)).alloc (.cells #[.int .u64 a0, .int .u64 a1, .int .u64 a2, .int .u64 a3, .int .u64 a4, .int .u64 a5, .int .u64 a6, .int .u64 a7, .int .u64 a8, .int .u64 a9, .int .u64 a10, .int .u64 a11] 24)).alloc (.cells #[.int .i64 priv] 3)).alloc (.cells #[.int .i64 kind] 3)).alloc (.cells #[.bool false, .int .i64 0, .int .u64 0] 48)) := by rw [hW4]
  rw [← hV]
  clear hV hW4
  generalize W4.alloc (.cells #[.bool false, .int .i64 0, .int .u64 0] 48) = V at *
  clear hq
  go_wp2_with fail
  refine (WD.out _).mono ?_
  rintro e w1 ⟨rfl, rfl⟩
  by_cases hal : va % m = 0
  · have hrr := HRR.out
    rw [if_pos hal] at hrr
    subst hrr
    go_wp2_with fail
    refine (TG.out _ _ HB.out HS.out).mono ?_
    rintro e w1 ⟨v, rfl, hA, hS, hFr⟩
    have hz1 := hFr.row HZ.out (by decide) (by decide) (HZ.out.apart HS.out.mem.row (by decide))
    obtain ⟨⟨z0, z1, z2⟩, fy, lt⟩ := fault_free hz1
    have HR := Lib.hid (fault_own hS (HF.out.trans hFr) hz1 (by rw [← HQ.out]; omega) (by rw [← HQ.out]; exact hle) (.bool r.f.isf) (.int .i64 r.f.cause) (.int .u64 r.f.val))
    have HA := Lib.hid (hA.own hz1 (gr_set3 w1 (q + 4) (.bool r.f.isf) (.int .i64 r.f.cause) (.int .u64 r.f.val)))
    unfold vF vFault
    clear hz1 hS hFr hA TG ON WD HRR
    go_wp2_with fail
    refine ret_IF (b := r.f.isf) (c := r.f.cause) (v := r.f.val) rfl rfl rfl rfl HR.out.1 ⟨v, rfl, ?_, HR.out.2⟩
    rcases HA.out with h1 | ⟨g, h1, h2, h3⟩
    · exact .inl h1
    · exact .inr ⟨g, h1, h2, by have := h3.1; have := HS5.out; have := HQ.out; omega, h3.2⟩
  · have hrr := HRR.out
    rw [if_neg hal] at hrr
    subst hrr
    have hne : (va % m == 0) = false := by simpa using hal
    go_wp2_with fail
    refine (ON.out _ _ HB.out HS.out).mono ?_
    rintro e w1 ⟨v, rfl, hA, hS, hFr⟩
    have hz1 := hFr.row HZ.out (by decide) (by decide) (HZ.out.apart HS.out.mem.row (by decide))
    obtain ⟨⟨z0, z1, z2⟩, fy, lt⟩ := fault_free hz1
    have HR := Lib.hid (fault_own hS (HF.out.trans hFr) hz1 (by rw [← HQ.out]; omega) (by rw [← HQ.out]; exact hle) (.bool r.f.isf) (.int .i64 r.f.cause) (.int .u64 r.f.val))
    have HA := Lib.hid (hA.own hz1 (gr_set3 w1 (q + 4) (.bool r.f.isf) (.int .i64 r.f.cause) (.int .u64 r.f.val)))
    unfold vF vFault
    clear hz1 hS hFr hA TG ON WD HRR
    go_wp2_with fail
    refine ret_IF (b := r.f.isf) (c := r.f.cause) (v := r.f.val) rfl rfl rfl rfl HR.out.1 ⟨v, rfl, ?_, HR.out.2⟩
    rcases HA.out with h1 | ⟨g, h1, h2, h3⟩
    · exact .inl h1
    · exact .inr ⟨g, h1, h2, by have := h3.1; have := HS5.out; have := HQ.out; omega, h3.2⟩
end Go.Proofs.Ytkfmcbhoendocaa
end
