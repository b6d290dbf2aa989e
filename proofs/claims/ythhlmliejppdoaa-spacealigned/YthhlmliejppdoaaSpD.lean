/-
  The function that finds an address (space.Space.reals's own), rows of addresses: contracts over the program's translation.
  Conditions: the arguments are numbers of their kinds; the space stands.
-/
import Derived.Test.YthhlmliejppdoaaSpC
namespace Go.Proofs.Ythhlmliejppdoaa
open Go Go.RowKit W M D A C P K
set_option linter.unusedVariables false

def wrds (l : List Int) : List Value := l.map (Value.int .u64)
theorem wrds_length (l : List Int) : (wrds l).length = l.length := by simp [wrds]
def vP (o : Option Nat) : Option Addr := o.map fun p => ⟨p, 0, none⟩
theorem vS_eq (pm : Nat) (t : Option Nat) : vS pm t = .agg #[.pointer (some ⟨pm, 0, none⟩), .pointer (vP t)] := rfl
theorem vT_eq (t : Option Nat) : vT t = .pointer (vP t) := rfl
/-- What the function has caught: the space, the registers, the privilege, the kind. -/
structure Bx (w : World) (b pm : Nat) (t : Option Nat) (c : Cs) (priv kind : Int) : Prop where
  spa : Row w b 73 [.pointer (some ⟨pm, 0, none⟩), vT t]
  csr : Row w (b + 1) 39 (lC c)
  pri : Row w (b + 2) 3 [.int .i64 priv]
  knd : Row w (b + 3) 3 [.int .i64 kind]
section
variable {w w' : World} {b pm gm : Nat} {t : Option Nat} {c : Cs} {priv kind : Int}
theorem Bx.keep (h : Bx w b pm t c priv kind) (hg : w.grownBy w' none) : Bx w' b pm t c priv kind := ⟨h.spa.grown hg (by simp), h.csr.grown hg (by simp), h.pri.grown hg (by simp), h.knd.grown hg (by simp)⟩
theorem Bx.fr {B : Nat} {bs : List Int} (h : Bx w b pm t c priv kind) (hm : RAt w pm gm bs) (hf : Fr B gm w w') : Bx w' b pm t c priv kind :=
  ⟨hf.row h.spa (by decide) (by decide) (h.spa.apart hm.row (by decide)), hf.row h.csr (by decide) (by decide) (h.csr.apart hm.row (by decide)), hf.row h.pri (by decide) (by decide) (h.pri.apart hm.row (by decide)), hf.row h.knd (by decide) (by decide) (h.knd.apart hm.row (by decide))⟩
theorem Bx.own {g : Nat} (h : Bx w b pm t c priv kind) (hg : w.grownBy w' (some g)) (hb : b + 3 < g) : Bx w' b pm t c priv kind := ⟨h.spa.grown hg (some_ne (by omega)), h.csr.grown hg (some_ne (by omega)), h.pri.grown hg (some_ne (by omega)), h.knd.grown hg (some_ne (by omega))⟩
end
set_option maxRecDepth 100000 in
set_option maxHeartbeats 4000000 in
theorem realTo_c (pm gm : Nat) (bs : List Int) (c : Cs) (hc : C.Good c) (priv kind va m : Int) (hp : I64 priv) (hk : I64 kind) (hv : B64 va) (hm : I64 m) (B : Nat) (t : Option Nat) (most : Nat) (n : Int) (L : List T.Lf) (b : Nat) (w : World) (hb : Bx w b pm t c priv kind) (h : Spc w B pm gm bs t most n L) :
    Calls Try.prog 105 #[.int .u64 va, .int .i64 m, .pointer (some ⟨b, 0, none⟩), .pointer (some ⟨b + 1, 0, none⟩), .pointer (some ⟨b + 2, 0, none⟩), .pointer (some ⟨b + 3, 0, none⟩)] w fun e w' => e = .returned (.tuple #[.int .u64 (S.sR bs L (gC c 9) (gC c 0) priv kind va m), vF (S.sF bs L (gC c 9) (gC c 0) priv kind va m)]) ∧ Spc w' B pm gm bs t most (T.toNV L n (gC c 9) (gC c 0) priv kind va) (T.toLV bs most L (gC c 9) (gC c 0) priv kind va) ∧ Fr B gm w w' := by
  have TO := Lib.hid (fun W hW => STo_c pm gm bs c hc priv kind va m hp hk hv hm B t most n L W hW)
  have hle := h.le
  have hg := gr_alloc (gr_refl w none) (.cells #[.bool false, .int .i64 0, .int .u64 0] 49)
  have HB := Lib.hid (hb.keep hg)
  have HS := Lib.hid (h.keep hg)
  have HZ := Lib.hid (Row.fresh w 49 [.bool false, .int .i64 0, .int .u64 0])
  have HG := Lib.hid (Fr.of_none hg B gm)
  generalize S.sR bs L (gC c 9) (gC c 0) priv kind va m = X at *
  generalize S.sF bs L (gC c 9) (gC c 0) priv kind va m = Y at *
  obtain ⟨pt, lv, gb, isf, ca, vl⟩ := Y
  unfold vF vFault at TO ⊢
  simp only at TO ⊢
  rw [vS_eq] at TO
  obtain ⟨a0, a1, a2, a3, a4, a5, a6, a7, a8, a9, a10, a11, rfl⟩ := twelve hc.1
  rw [show vC [a0, a1, a2, a3, a4, a5, a6, a7, a8, a9, a10, a11] = .agg #[.int .u64 a0, .int .u64 a1, .int .u64 a2, .int .u64 a3, .int .u64 a4, .int .u64 a5, .int .u64 a6, .int .u64 a7, .int .u64 a8, .int .u64 a9, .int .u64 a10, .int .u64 a11] from rfl] at *
  clear hc hb h hg
  unfold I64 at hp hk hm
  unfold B64 at hv
  go_enter Try.func105, Try.ntmps105
  go_upto_region 1 with (fail)
  replace HZ : Hid (Row (w.alloc (.cells #[.bool false, .int .i64 0, .int .u64 0] 49)) w.heap.size 49 [.bool false, .int .i64 0, .int .u64 0]) := HZ
  generalize w.alloc (.cells #[.bool false, .int .i64 0, .int .u64 0] 49) = V at *
  have hqe : w.heap.size ≤ w.heap.size := Nat.le_refl _
  have hF := Lib.hid (And.intro hqe hle)
  generalize hq : w.heap.size = q at hF ⊢
  rw [hq] at HZ
  have hqw := Lib.hid hq
  clear hq hqe hle
  have hB := HB.out
  have k0 : V.cell? ⟨b + 1, 0, none⟩ = some (.int .u64 a0) := hB.csr.cell 0
  have k1 : V.cell? ⟨b + 1, 1, none⟩ = some (.int .u64 a1) := hB.csr.cell 1
  have k2 : V.cell? ⟨b + 1, 2, none⟩ = some (.int .u64 a2) := hB.csr.cell 2
  have k3 : V.cell? ⟨b + 1, 3, none⟩ = some (.int .u64 a3) := hB.csr.cell 3
  have k4 : V.cell? ⟨b + 1, 4, none⟩ = some (.int .u64 a4) := hB.csr.cell 4
  have k5 : V.cell? ⟨b + 1, 5, none⟩ = some (.int .u64 a5) := hB.csr.cell 5
  have k6 : V.cell? ⟨b + 1, 6, none⟩ = some (.int .u64 a6) := hB.csr.cell 6
  have k7 : V.cell? ⟨b + 1, 7, none⟩ = some (.int .u64 a7) := hB.csr.cell 7
  have k8 : V.cell? ⟨b + 1, 8, none⟩ = some (.int .u64 a8) := hB.csr.cell 8
  have k9 : V.cell? ⟨b + 1, 9, none⟩ = some (.int .u64 a9) := hB.csr.cell 9
  have k10 : V.cell? ⟨b + 1, 10, none⟩ = some (.int .u64 a10) := hB.csr.cell 10
  have k11 : V.cell? ⟨b + 1, 11, none⟩ = some (.int .u64 a11) := hB.csr.cell 11
  have p0 : V.cell? ⟨b, 0, none⟩ = some (.pointer (some ⟨pm, 0, none⟩)) := hB.spa.cell 0
  have p1 : V.cell? ⟨b, 1, none⟩ = some (.pointer (vP t)) := hB.spa.cell 1
  have i0 : V.cell? ⟨b + 2, 0, none⟩ = some (.int .i64 priv) := hB.pri.cell 0
  have i1 : V.cell? ⟨b + 3, 0, none⟩ = some (.int .i64 kind) := hB.knd.cell 0
  have ltb := hB.knd.lt
  clear hB
  generalize vP t = o at *
  go_wp2_with fail
  refine (TO.out _ HS.out).mono ?_
  rintro e w1 ⟨rfl, hS, hFr⟩
  have hz1 := hFr.row HZ.out (by decide) (by decide) (HZ.out.apart HS.out.mem.row (by decide))
  obtain ⟨⟨z0, z1, z2⟩, fy, lt⟩ := fault_free hz1
  have dn := Lib.hid (fault_own hS (HG.out.trans hFr) hz1 (by rw [hqw.out]; exact Nat.le_refl _) (by have := hF.out; have := hqw.out; omega) (.bool isf) (.int .i64 ca) (.int .u64 vl))
  clear hS hFr hz1 HZ HS HB HG k0 k1 k2 k3 k4 k5 k6 k7 k8 k9 k10 k11 p0 p1 i0 i1 ltb TO
  go_wp2_with fail
  exact ret_IF (b := isf) (c := ca) (v := vl) rfl rfl rfl rfl dn.out.1 ⟨rfl, dn.out.2⟩
end Go.Proofs.Ythhlmliejppdoaa
