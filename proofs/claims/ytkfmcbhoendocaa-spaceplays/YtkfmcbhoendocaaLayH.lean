/-
  Loads and stores (space.Load, Store): contracts over the program's translation.
  Stores (space.Store): a contract over the program's translation.
  Fetches (space.Fetch): contracts over the program's translation.
  Conditions: each part's own: the arguments are numbers of their kinds; the tables hold what the program's text lays.
-/
import Derived.Test.YtkfmcbhoendocaaLayE
import Derived.StillTailTactics
import Derived.Test.YtkfmcbhoendocaaLayS
section
namespace Go.Proofs.Ytkfmcbhoendocaa
open Go Go.RowKit W M D A C P K
set_option linter.unusedVariables false

theorem get1_bd {bs : List Int} (h : Byt bs) (a : Int) : 0 ≤ getV bs a 1 ∧ getV bs a 1 ≤ 255 := by
  unfold getV
  split
  · have := leV_bd _ (take_byt (drop_byt h (offV a)) (1 : Int).toNat)
    have hl : ((bs.drop (offV a)).take (1 : Int).toNat).length ≤ 1 := by simp; omega
    have hp := p256_le hl
    omega
  · omega
def gets (bs : List Int) (all : List Int) : List Int := all.map fun a => getV bs a 1
theorem gets_byt {bs : List Int} (h : Byt bs) (all : List Int) : Byt (gets bs all) := by
  intro b hb
  obtain ⟨a, -, rfl⟩ := List.mem_map.1 hb
  exact get1_bd h a
theorem load_step {bs : List Int} (h : Byt bs) {all : List Int} {i : Nat} (hi : i < all.length) (h8 : all.length ≤ 8) :
    (0 ≤ leV ((gets bs all).take i) ∧ leV ((gets bs all).take i) < 256 ^ i) ∧ leV ((gets bs all).take (i + 1)) = leV ((gets bs all).take i) + 256 ^ i * getV bs (all.getD i 0) 1 := by
  have hl : (gets bs all).length = all.length := by simp [gets]
  have hlk : ((gets bs all).take i).length = i := by rw [List.length_take, hl]; omega
  have hb := leV_bd _ (take_byt (gets_byt h all) i)
  rw [hlk] at hb
  refine ⟨hb, ?_⟩
  rw [take_snoc _ _ (by rw [hl]; omega), leV_snoc, hlk]
  congr 2
  unfold gets
  simp [List.getD, List.getElem?_eq_getElem hi]
set_option maxRecDepth 100000 in
set_option maxHeartbeats 4000000 in
theorem SLoad_c (pm gm : Nat) (bs : List Int) (c : Cs) (hc : C.Good c) (priv va : Int) (m : Nat) (hp : I64 priv) (hv : B64 va) (hm : m = 1 ∨ m = 2 ∨ m = 4 ∨ m = 8) (B : Nat) (t : Option Nat) (most : Nat) (n : Int) (L : List T.Lf) (w : World) (h : Spc w B pm gm bs t most n L) (r : S.Ans) (hr : S.realsV bs most (gC c 9) (gC c 0) priv 1 va m L n = r) :
    Calls Try.prog 38 #[vS pm t, vC c, .int .i64 priv, .int .u64 va, .int .i64 m] w fun e w' => e = .returned (.tuple #[.int .u64 (S.loadX bs r.all), vF r.f]) ∧ Spc w' B pm gm bs t most r.n r.L ∧ Fr B gm w w' := by
  have RE := Lib.hid (fun W hW => reals_c pm gm bs c hc priv 1 va m hp (by unfold I64; omega) hv hm B t most n L W hW)
  rw [hr] at RE
  have HBY := Lib.hid h.mem.byt
  have HF0 := Lib.hid (Sip.start (c := c) w h)
  obtain ⟨x, hx⟩ : ∃ x, x = S.loadX bs r.all := ⟨_, rfl⟩
  rw [← hx]
  have HX := Lib.hid hx
  have GT := Lib.hid (fun a W hW ha => Get_c pm gm bs a 1 W hW ha (by omega))
  obtain ⟨⟨pt, lv, gb, isf, ca, vl⟩, all, L', n'⟩ := r
  simp only at HX
  unfold Gave at RE
  simp only at RE ⊢
  unfold vF vFault at RE ⊢
  simp only at RE ⊢
  rw [vS_eq] at RE ⊢
  obtain ⟨a0, a1, a2, a3, a4, a5, a6, a7, a8, a9, a10, a11, rfl⟩ := twelve hc.1
  rw [show vC [a0, a1, a2, a3, a4, a5, a6, a7, a8, a9, a10, a11] = .agg #[.int .u64 a0, .int .u64 a1, .int .u64 a2, .int .u64 a3, .int .u64 a4, .int .u64 a5, .int .u64 a6, .int .u64 a7, .int .u64 a8, .int .u64 a9, .int .u64 a10, .int .u64 a11] from rfl] at *
  clear hc h hr hx
  unfold I64 at hp
  unfold B64 at hv
  go_enter Try.func38, Try.ntmps38
  go_upto_region 1 with (fail)
  have hF := HF0.out
  clear HF0
  rw [vT_eq] at hF
  unfold lC lFault at hF
  simp only [List.map_cons, List.map_nil] at hF
  have hF : Sip w w.heap.size pm gm bs [a0, a1, a2, a3, a4, a5, a6, a7, a8, a9, a10, a11] B t most n L (((w.alloc (.cells #[.pointer (some ⟨pm, 0, none⟩), .pointer (vP t)] 81)).alloc (.cells #[.int .u64 a0, .int .u64 a1, .int .u64 a2, .int .u64 a3, .int .u64 a4, .int .u64 a5, .int .u64 a6, .int .u64 a7, .int .u64 a8, .int .u64 a9, .int .u64 a10, .int .u64 a11] 24)).alloc (.cells #[.bool false, .int .i64 0, .int .u64 0] 48)) := hF
  generalize (((w.alloc (.cells #[.pointer (some ⟨pm, 0, none⟩), .pointer (vP t)] 81)).alloc (.cells #[.int .u64 a0, .int .u64 a1, .int .u64 a2, .int .u64 a3, .int .u64 a4, .int .u64 a5, .int .u64 a6, .int .u64 a7, .int .u64 a8, .int .u64 a9, .int .u64 a10, .int .u64 a11] 24)).alloc (.cells #[.bool false, .int .i64 0, .int .u64 0] 48)) = V at *
  generalize hbb : w.heap.size = b at *
  have HBB := Lib.hid hbb
  have k0 : V.cell? ⟨b + 1, 0, none⟩ = some (.int .u64 a0) := hF.csr.cell 0
  have k1 : V.cell? ⟨b + 1, 1, none⟩ = some (.int .u64 a1) := hF.csr.cell 1
  have k2 : V.cell? ⟨b + 1, 2, none⟩ = some (.int .u64 a2) := hF.csr.cell 2
  have k3 : V.cell? ⟨b + 1, 3, none⟩ = some (.int .u64 a3) := hF.csr.cell 3
  have k4 : V.cell? ⟨b + 1, 4, none⟩ = some (.int .u64 a4) := hF.csr.cell 4
  have k5 : V.cell? ⟨b + 1, 5, none⟩ = some (.int .u64 a5) := hF.csr.cell 5
  have k6 : V.cell? ⟨b + 1, 6, none⟩ = some (.int .u64 a6) := hF.csr.cell 6
  have k7 : V.cell? ⟨b + 1, 7, none⟩ = some (.int .u64 a7) := hF.csr.cell 7
  have k8 : V.cell? ⟨b + 1, 8, none⟩ = some (.int .u64 a8) := hF.csr.cell 8
  have k9 : V.cell? ⟨b + 1, 9, none⟩ = some (.int .u64 a9) := hF.csr.cell 9
  have k10 : V.cell? ⟨b + 1, 10, none⟩ = some (.int .u64 a10) := hF.csr.cell 10
  have k11 : V.cell? ⟨b + 1, 11, none⟩ = some (.int .u64 a11) := hF.csr.cell 11
  have p0 : V.cell? ⟨b, 0, none⟩ = some (.pointer (some ⟨pm, 0, none⟩)) := hF.spa.cell 0
  have p1 : V.cell? ⟨b, 1, none⟩ = some (.pointer (vP t)) := hF.spa.cell 1
  have ltb := hF.csr.lt
  have HF := Lib.hid hF
  clear hF hbb
  generalize vP t = o at *
  go_wp2_with fail
  refine (RE.out _ HF.out.st).mono ?_
  rintro e w1 ⟨v, rfl, hA, hS, hFr⟩
  have hF1 := HF.out.turn hS hFr
  have hle := HF.out.flt.lt
  have q1 := Row.fresh w1 48 [.bool isf, .int .i64 ca, .int .u64 vl]
  have hg := gr_alloc (gr_refl w1 none) (.cells #[.bool isf, .int .i64 ca, .int .u64 vl] 48)
  have hF2 := hF1.keep hg
  have lt1 := hF1.flt.lt
  replace hA : Adr (w1.alloc (.cells #[.bool isf, .int .i64 ca, .int .u64 vl] 48)) v all V.heap.size := by
    rcases hA with hA | ⟨g, h1, h2, h3⟩
    · exact .inl hA
    · exact .inr ⟨g, h1, h2.grown hg (by simp), h3⟩
  clear HF hS hFr k0 k1 k2 k3 k4 k5 k6 k7 k8 k9 k10 k11 p0 p1 ltb RE hF1 hg
  go_upto_region 2 with (fail)
  replace q1 : Row (w1.alloc (.cells #[.bool isf, .int .i64 ca, .int .u64 vl] 48)) w1.heap.size 48 [.bool isf, .int .i64 ca, .int .u64 vl] := q1
  generalize w1.alloc (.cells #[.bool isf, .int .i64 ca, .int .u64 vl] 48) = U at *
  generalize w1.heap.size = q at *
  obtain ⟨⟨l0, l1, l2⟩, -, lq⟩ := fault_free q1
  obtain ⟨⟨z0, z1, z2⟩, fy, lt, p0, -⟩ := hF2.facts
  have dn := Lib.hid (hF2.done (.bool isf) (.int .i64 ca) (.int .u64 vl))
  have HM := Lib.hid hF2.st.mem
  clear hF2 q1
  rcases hA with ⟨rfl, rfl⟩ | ⟨g, rfl, hR, -, h64, h8⟩
  · have hx0 : x = 0 := by rw [HX.out]; rfl
    subst hx0
    go_wp2_with fail
    go_loop [30, 14] (fun i x => i = .int .i64 0 ∧ x = .int .u64 0) (fun i _ => 0)
    case atStart => exact ⟨rfl, rfl⟩
    case round =>
      obtain ⟨rfl, rfl⟩ := hrel
      go_wp2_with fail
      go_region
      go_wp2_with fail
      exact ret_IF (b := isf) (c := ca) (v := vl) rfl rfl rfl rfl dn.out.1 ⟨rfl, dn.out.2.1.drew, dn.out.2.2.drew⟩
  · have HR := Lib.hid (And.intro hR (And.intro h64 h8))
    have hn8 : all.length ≤ 8 := h8
    clear hR h64 h8
    obtain ⟨N, hN⟩ : ∃ N, N = all.length := ⟨_, rfl⟩
    rw [← hN] at hn8 ⊢
    have HN := Lib.hid hN
    clear hN
    go_wp2_with fail
    go_loop [30, 14] (fun i x => ∃ k : Nat, k ≤ N ∧ i = .int .i64 k ∧ x = .int .u64 (leV ((gets bs all).take k))) (fun i _ => N - (intOf i).toNat)
    case atStart => exact ⟨0, Nat.zero_le _, rfl, rfl⟩
    case round =>
      obtain ⟨k, hk, rfl, rfl⟩ := hrel
      by_cases hlt : k < N
      · have hka : k < all.length := by rw [← HN.out]; exact hlt
        obtain ⟨a, ha⟩ : ∃ a, a = all.getD k 0 := ⟨_, rfl⟩
        have hmem : a ∈ all := by rw [ha]; simp [List.getD, List.getElem?_eq_getElem hka]
        have hcell : U.cell? ⟨g, k, none⟩ = some (.int .u64 a) := by rw [HR.out.1.cell, ha]; simp [wrds, List.getD, List.getElem?_eq_getElem hka]
        obtain ⟨hx, hst⟩ := load_step HBY.out hka HR.out.2.2
        rw [← ha] at hst
        have G1 := Lib.hid (GT.out a U HM.out (HR.out.2.1 a hmem))
        obtain ⟨hb0, hb1⟩ := get1_bd HBY.out a
        generalize getV bs a 1 = b' at *
        have HST := Lib.hid hst
        have HXX := Lib.hid hx
        have HK := Lib.hid hka
        clear ha hmem hx hst hka
        go_wp2_with fail
        refine G1.out.mono ?_
        rintro e w' ⟨rfl, rfl⟩
        go_wp2_with fail
        go_round
        case rel => exact ⟨k + 1, by omega, by go_num, by rw [or_step _ _ _ (by omega) HXX.out ⟨hb0, hb1⟩, HST.out]⟩
        case measure => simp [intOf]; omega
      · obtain rfl : k = N := by omega
        have hxe : leV ((gets bs all).take k) = x := by
          rw [HX.out, List.take_of_length_le (by rw [HN.out]; simp [gets])]
          rfl
        rw [hxe]
        go_wp2_with fail
        go_region
        go_wp2_with fail
        exact ret_IF (b := isf) (c := ca) (v := vl) rfl rfl rfl rfl dn.out.1 ⟨rfl, dn.out.2.1.drew, dn.out.2.2.drew⟩
end Go.Proofs.Ytkfmcbhoendocaa
end

section
namespace Go.Proofs.Ytkfmcbhoendocaa
open Go Go.RowKit W M D A C P K
set_option linter.unusedVariables false

theorem Sip.wrote {w wr ws : World} {b pm gm : Nat} {bs bs' : List Int} {c : Cs} {B : Nat} {t : Option Nat} {most : Nat} {n : Int} {L : List T.Lf} (h : Sip w b pm gm bs c B t most n L wr) (hg : wr.grownBy ws (some gm)) (hm : RAt ws pm gm bs') : Sip w b pm gm bs' c B t most n L ws :=
  ⟨h.spa.grown hg (some_ne (h.spa.apart h.st.mem.row (by decide))), h.csr.grown hg (some_ne (h.csr.apart h.st.mem.row (by decide))), h.flt.grown hg (some_ne (h.flt.apart h.st.mem.row (by decide))), h.st.wrote hg hm, h.fr.trans (Fr.of_mem hg h.st.own), h.sz⟩
theorem i64_in {x : Int} (h : -9223372036854775808 ≤ x ∧ x ≤ 9223372036854775807) : IntKind.i64.wrap x = x := by
  rw [IntKind.wrap_i64]; omega
theorem drop_cons {all : List Int} {k : Nat} (h : k < all.length) : all.drop k = all.getD k 0 :: all.drop (k + 1) := by
  rw [List.drop_eq_getElem_cons h]
  simp [List.getD, List.getElem?_eq_getElem h]
theorem shr_8 (x : Int) (k : Nat) : x / 2 ^ (8 * k) = x / 256 ^ k := by rw [pow_8]
theorem div_64 {x : Int} (hx : 0 ≤ x ∧ x ≤ 18446744073709551615) (k : Nat) : 0 ≤ x / 256 ^ k ∧ x / 256 ^ k ≤ 18446744073709551615 := by
  have hp := p256 k
  exact ⟨Int.ediv_nonneg hx.1 (by omega), by have := Int.ediv_le_self (256 ^ k) hx.1; omega⟩
set_option maxRecDepth 100000 in
set_option maxHeartbeats 4000000 in
theorem SStore_c (pm gm : Nat) (bs : List Int) (c : Cs) (hc : C.Good c) (priv va : Int) (m : Nat) (x : Int) (hp : I64 priv) (hv : B64 va) (hm : m = 1 ∨ m = 2 ∨ m = 4 ∨ m = 8) (hx : B64 x) (B : Nat) (t : Option Nat) (most : Nat) (n : Int) (L : List T.Lf) (w : World) (h : Spc w B pm gm bs t most n L) (r : S.Ans) (hr : S.realsV bs most (gC c 9) (gC c 0) priv 2 va m L n = r) :
    Calls Try.prog 40 #[vS pm t, vC c, .int .i64 priv, .int .u64 va, .int .i64 m, .int .u64 x] w fun e w' => ∃ v, e = .returned (.tuple #[v, vF r.f]) ∧ Adr w' v r.all w.heap.size ∧ Spc w' B pm gm (S.storeX bs r.all x) t most r.n r.L ∧ Fr B gm w w' := by
  have RE := Lib.hid (fun W hW => reals_c pm gm bs c hc priv 2 va m hp (by unfold I64; omega) hv hm B t most n L W hW)
  rw [hr] at RE
  have HF0 := Lib.hid (Sip.start (c := c) w h)
  have PT := Lib.hid (fun bs a y W hW ha hy => Put_c pm gm bs a 1 y W hW ha (by omega) hy)
  have hxx : 0 ≤ x ∧ x ≤ 18446744073709551615 := hx
  obtain ⟨⟨pt, lv, gb, isf, ca, vl⟩, all, L', n'⟩ := r
  unfold Gave at RE
  simp only at RE ⊢
  unfold vF vFault at RE ⊢
  simp only at RE ⊢
  rw [vS_eq] at RE ⊢
  obtain ⟨a0, a1, a2, a3, a4, a5, a6, a7, a8, a9, a10, a11, rfl⟩ := twelve hc.1
  rw [show vC [a0, a1, a2, a3, a4, a5, a6, a7, a8, a9, a10, a11] = .agg #[.int .u64 a0, .int .u64 a1, .int .u64 a2, .int .u64 a3, .int .u64 a4, .int .u64 a5, .int .u64 a6, .int .u64 a7, .int .u64 a8, .int .u64 a9, .int .u64 a10, .int .u64 a11] from rfl] at *
  clear hc h hr hx
  unfold I64 at hp
  unfold B64 at hv
  go_enter Try.func40, Try.ntmps40
  go_upto_region 1 with (fail)
  have hF := HF0.out
  clear HF0
  rw [vT_eq] at hF
  unfold lC lFault at hF
  simp only [List.map_cons, List.map_nil] at hF
  have hF : Sip w w.heap.size pm gm bs [a0, a1, a2, a3, a4, a5, a6, a7, a8, a9, a10, a11] B t most n L (((w.alloc (.cells #[.pointer (some ⟨pm, 0, none⟩), .pointer (vP t)] 81)).alloc (.cells #[.int .u64 a0, .int .u64 a1, .int .u64 a2, .int .u64 a3, .int .u64 a4, .int .u64 a5, .int .u64 a6, .int .u64 a7, .int .u64 a8, .int .u64 a9, .int .u64 a10, .int .u64 a11] 24)).alloc (.cells #[.bool false, .int .i64 0, .int .u64 0] 48)) := hF
  generalize (((w.alloc (.cells #[.pointer (some ⟨pm, 0, none⟩), .pointer (vP t)] 81)).alloc (.cells #[.int .u64 a0, .int .u64 a1, .int .u64 a2, .int .u64 a3, .int .u64 a4, .int .u64 a5, .int .u64 a6, .int .u64 a7, .int .u64 a8, .int .u64 a9, .int .u64 a10, .int .u64 a11] 24)).alloc (.cells #[.bool false, .int .i64 0, .int .u64 0] 48)) = V at *
  generalize hbb : w.heap.size = b at *
  have HBB := Lib.hid hbb
  have k0 : V.cell? ⟨b + 1, 0, none⟩ = some (.int .u64 a0) := hF.csr.cell 0
  have k1 : V.cell? ⟨b + 1, 1, none⟩ = some (.int .u64 a1) := hF.csr.cell 1
  have k2 : V.cell? ⟨b + 1, 2, none⟩ = some (.int .u64 a2) := hF.csr.cell 2
  have k3 : V.cell? ⟨b + 1, 3, none⟩ = some (.int .u64 a3) := hF.csr.cell 3
  have k4 : V.cell? ⟨b + 1, 4, none⟩ = some (.int .u64 a4) := hF.csr.cell 4
  have k5 : V.cell? ⟨b + 1, 5, none⟩ = some (.int .u64 a5) := hF.csr.cell 5
  have k6 : V.cell? ⟨b + 1, 6, none⟩ = some (.int .u64 a6) := hF.csr.cell 6
  have k7 : V.cell? ⟨b + 1, 7, none⟩ = some (.int .u64 a7) := hF.csr.cell 7
  have k8 : V.cell? ⟨b + 1, 8, none⟩ = some (.int .u64 a8) := hF.csr.cell 8
  have k9 : V.cell? ⟨b + 1, 9, none⟩ = some (.int .u64 a9) := hF.csr.cell 9
  have k10 : V.cell? ⟨b + 1, 10, none⟩ = some (.int .u64 a10) := hF.csr.cell 10
  have k11 : V.cell? ⟨b + 1, 11, none⟩ = some (.int .u64 a11) := hF.csr.cell 11
  have p0 : V.cell? ⟨b, 0, none⟩ = some (.pointer (some ⟨pm, 0, none⟩)) := hF.spa.cell 0
  have p1 : V.cell? ⟨b, 1, none⟩ = some (.pointer (vP t)) := hF.spa.cell 1
  have ltb := hF.csr.lt
  have HF := Lib.hid hF
  clear hF hbb
  obtain ⟨o, ho⟩ : ∃ o, vP t = o := ⟨_, rfl⟩
  rw [ho] at RE p1 ⊢
  clear ho
  go_wp2_with fail
  refine (RE.out _ HF.out.st).mono ?_
  rintro e w1 ⟨v, rfl, hA, hS, hFr⟩
  have hF1 := HF.out.turn hS hFr
  have hle := HF.out.flt.lt
  have q1 := Row.fresh w1 48 [.bool isf, .int .i64 ca, .int .u64 vl]
  have hg := gr_alloc (gr_refl w1 none) (.cells #[.bool isf, .int .i64 ca, .int .u64 vl] 48)
  have hF2 := hF1.keep hg
  have lt1 := hF1.flt.lt
  replace hA : Adr (w1.alloc (.cells #[.bool isf, .int .i64 ca, .int .u64 vl] 48)) v all V.heap.size := by
    rcases hA with hA | ⟨g, h1, h2, h3⟩
    · exact .inl hA
    · exact .inr ⟨g, h1, h2.grown hg (by simp), h3⟩
  clear HF hS hFr k0 k1 k2 k3 k4 k5 k6 k7 k8 k9 k10 k11 p0 p1 ltb RE hF1 hg
  go_upto_region 2 with (fail)
  replace q1 : Row (w1.alloc (.cells #[.bool isf, .int .i64 ca, .int .u64 vl] 48)) w1.heap.size 48 [.bool isf, .int .i64 ca, .int .u64 vl] := q1
  generalize w1.alloc (.cells #[.bool isf, .int .i64 ca, .int .u64 vl] 48) = U at *
  generalize w1.heap.size = q at *
  rcases hA with ⟨rfl, rfl⟩ | ⟨g, rfl, hR, hgl, h64, h8⟩
  · obtain ⟨⟨l0, l1, l2⟩, -, lq⟩ := fault_free q1
    obtain ⟨⟨z0, z1, z2⟩, fy, lt, p0, -⟩ := hF2.facts
    have dn := Lib.hid (hF2.done (.bool isf) (.int .i64 ca) (.int .u64 vl))
    clear hF2 q1
    go_wp2_with fail
    go_loop [29] (fun i => i = .int .i64 0) (fun i => 0)
    case atStart => exact rfl
    case round =>
      obtain rfl := hrel
      go_wp2_with fail
      go_region
      go_wp2_with fail
      exact ret_IF (b := isf) (c := ca) (v := vl) rfl rfl rfl rfl dn.out.1 ⟨_, rfl, .inl ⟨rfl, rfl⟩, dn.out.2.1.drew, dn.out.2.2.drew⟩
  · have HR := Lib.hid (And.intro h64 (And.intro h8 hgl))
    have hn8 : all.length ≤ 8 := h8
    clear h64 h8 hgl
    obtain ⟨N, hN⟩ : ∃ N, N = all.length := ⟨_, rfl⟩
    rw [← hN] at hn8 ⊢
    have HN := Lib.hid hN
    clear hN
    have HK := Lib.hid (And.intro hF2 (And.intro q1 hR))
    clear hF2 q1 hR
    go_wp2_with fail
    go_loopw [29] (fun i wr => ∃ (k : Nat) (bk : List Int), k ≤ N ∧ i = .int .i64 k ∧ S.storeX bs all x = S.storeX bk (all.drop k) (x / 256 ^ k) ∧ Sip w b pm gm bk [a0, a1, a2, a3, a4, a5, a6, a7, a8, a9, a10, a11] B t most n' L' wr ∧ Row wr q 48 [.bool isf, .int .i64 ca, .int .u64 vl] ∧ Row wr g 22 (wrds all)) (fun i _ => N - (intOf i).toNat)
    case atStart => exact ⟨0, bs, Nat.zero_le _, rfl, by simp, HK.out⟩
    case round =>
      obtain ⟨k, bk, hk, rfl, hst, hF, hq, hR⟩ := hrel
      by_cases hlt : k < N
      · have hka : k < all.length := by rw [← HN.out]; exact hlt
        obtain ⟨a, ha⟩ : ∃ a, a = all.getD k 0 := ⟨_, rfl⟩
        have hmem : a ∈ all := by rw [ha]; simp [List.getD, List.getElem?_eq_getElem hka]
        have hcell : wr.cell? ⟨g, k, none⟩ = some (.int .u64 a) := by rw [hR.cell, ha]; simp [wrds, List.getD, List.getElem?_eq_getElem hka]
        have lg := hR.lt
        rw [drop_cons hka, ← ha, S.storeX] at hst
        have p0 : wr.cell? ⟨b, 0, none⟩ = some (.pointer (some ⟨pm, 0, none⟩)) := hF.spa.cell 0
        have lb := hF.spa.lt
        have hy := div_64 hxx k
        have P1 := Lib.hid (PT.out bk a (x / 256 ^ k) wr.drew hF.st.mem.drew (HR.out.1 a hmem) hy)
        have hs := shr_8 x k
        have hw8 : IntKind.i64.wrap (8 * (k : Int)) = 8 * (k : Int) := i64_in (by omega)
        have hy2 : x / 256 ^ k / 256 = x / 256 ^ (k + 1) := by rw [Int.pow_succ, Int.ediv_ediv_of_nonneg (by have := p256 k; omega)]
        rw [hy2] at hst
        have HST := Lib.hid hst
        have HW := Lib.hid (And.intro hF (And.intro hq hR))
        generalize x / 256 ^ k = y at *
        clear ha hmem hst hF hq hR hka hy2
        go_wp2_with fail
        refine wp_region_still_tail 7 (by kernel_rfl) (by kernel_rfl) ?_
        simp only [List.take_succ_cons, List.take_zero, List.drop_succ_cons, List.drop_zero]
        change wpStill Try.prog _ (World.drew wr) _ _ _
        repeat still_step
        refine wpStill_nil ?_
        change wpList _ _ _ _ _ (World.drew _)
        go_wp2_with fail
        rw [hs]
        refine P1.out.mono ?_
        rintro e w2 ⟨rfl, hA, hG⟩
        have hG' : wr.grownBy w2 (some gm) := ⟨hG.os, hG.tape, hG.output, hG.size, hG.block⟩
        obtain ⟨hF, hq, hR⟩ := HW.out
        have hF3 := hF.wrote hG' hA
        have hq3 := hq.grown hG' (some_ne (hq.apart hF.st.mem.row (by decide)))
        have hR3 := hR.grown hG' (some_ne (hR.apart hF.st.mem.row (by decide)))
        clear hF hq hR hG hG' hA HW p0 lb lg hcell
        go_wp2_with fail
        go_roundw
        case rel => exact ⟨k + 1, _, by omega, by go_num, HST.out, hF3, hq3, hR3⟩
        case measure => simp [intOf]; omega
      · obtain rfl : k = N := by omega
        obtain ⟨⟨l0, l1, l2⟩, -, lq⟩ := fault_free hq
        obtain ⟨⟨z0, z1, z2⟩, fy, lt, -⟩ := hF.facts
        rw [List.drop_of_length_le (by rw [HN.out]; exact Nat.le_refl _), S.storeX] at hst
        rw [← hst] at hF
        have dn := Lib.hid (hF.done (.bool isf) (.int .i64 ca) (.int .u64 vl))
        have HRR := Lib.hid (And.intro hR (hR.apart hF.flt (by decide)))
        have HGS := Lib.hid (gr_set3 wr (b + 2) (.bool isf) (.int .i64 ca) (.int .u64 vl))
        clear hF hq hst hR
        go_wp2_with fail
        go_region
        go_wp2_with fail
        refine ret_IF (b := isf) (c := ca) (v := vl) rfl rfl rfl rfl dn.out.1 ⟨.slice (some ⟨g, 0, none⟩) all.length all.length, by first | rfl | (rw [← HN.out]; rfl), ?_, dn.out.2.1.drew, dn.out.2.2.drew⟩
        refine .inr ⟨g, rfl, HRR.out.1.grown (gr_drew HGS.out) (some_ne HRR.out.2), ?_, HR.out.1, HR.out.2.1⟩
        have := HR.out.2.2
        have := HBB.out
        omega
end Go.Proofs.Ytkfmcbhoendocaa
end

section
namespace Go.Proofs.Ytkfmcbhoendocaa
open Go Go.RowKit W M D A C P K
set_option linter.unusedVariables false

/-- What the function has caught: the space, the registers, the privilege. -/
structure Bf (w : World) (b pm : Nat) (t : Option Nat) (c : Cs) (priv : Int) : Prop where
  spa : Row w b 81 [.pointer (some ⟨pm, 0, none⟩), vT t]
  csr : Row w (b + 1) 24 (lC c)
  pri : Row w (b + 2) 3 [.int .i64 priv]
section
variable {w w' : World} {b pm gm : Nat} {t : Option Nat} {c : Cs} {priv : Int}
theorem Bf.keep (h : Bf w b pm t c priv) (hg : w.grownBy w' none) : Bf w' b pm t c priv := ⟨h.spa.grown hg (by simp), h.csr.grown hg (by simp), h.pri.grown hg (by simp)⟩
theorem Bf.fr {B : Nat} {bs : List Int} (h : Bf w b pm t c priv) (hm : RAt w pm gm bs) (hf : Fr B gm w w') : Bf w' b pm t c priv :=
  ⟨hf.row h.spa (by decide) (by decide) (h.spa.apart hm.row (by decide)), hf.row h.csr (by decide) (by decide) (h.csr.apart hm.row (by decide)), hf.row h.pri (by decide) (by decide) (h.pri.apart hm.row (by decide))⟩
end
theorem Bf.start (w : World) (pm : Nat) (t : Option Nat) (c : Cs) (priv : Int) :
    Bf (((w.alloc (.cells #[.pointer (some ⟨pm, 0, none⟩), vT t] 81)).alloc (.cells (lC c).toArray 24)).alloc (.cells #[.int .i64 priv] 3)) w.heap.size pm t c priv ∧
    (((w.alloc (.cells #[.pointer (some ⟨pm, 0, none⟩), vT t] 81)).alloc (.cells (lC c).toArray 24)).alloc (.cells #[.int .i64 priv] 3)).heap.size = w.heap.size + 3 := by
  have a0 := Row.fresh w 81 [.pointer (some ⟨pm, 0, none⟩), vT t]
  obtain ⟨w1, h1⟩ : ∃ w1, w1 = w.alloc (.cells #[.pointer (some ⟨pm, 0, none⟩), vT t] 81) := ⟨_, rfl⟩
  have s1 : w1.heap.size = w.heap.size + 1 := by rw [h1]; exact Array.size_push ..
  have a1 := Row.fresh w1 24 (lC c)
  obtain ⟨w2, h2⟩ : ∃ w2, w2 = w1.alloc (.cells (lC c).toArray 24) := ⟨_, rfl⟩
  have s2 : w2.heap.size = w.heap.size + 2 := by rw [h2]; exact (Array.size_push ..).trans (by rw [s1])
  have a2 := Row.fresh w2 3 [.int .i64 priv]
  rw [s1] at a1
  rw [s2] at a2
  subst h1
  subst h2
  exact ⟨⟨(a0.alloc _).alloc _, a1.alloc _, a2⟩, (Array.size_push ..).trans (by rw [s2])⟩
set_option maxRecDepth 100000 in
set_option maxHeartbeats 4000000 in
theorem half_c (pm gm : Nat) (bs : List Int) (c : Cs) (hc : C.Good c) (priv va : Int) (hp : I64 priv) (hv : B64 va) (B : Nat) (t : Option Nat) (most : Nat) (n : Int) (L : List T.Lf) (b : Nat) (w : World) (hb : Bf w b pm t c priv) (h : Spc w B pm gm bs t most n L) :
    Calls Try.prog 86 #[.int .u64 va, .pointer (some ⟨b, 0, none⟩), .pointer (some ⟨b + 1, 0, none⟩), .pointer (some ⟨b + 2, 0, none⟩)] w fun e w' => e = .returned (.tuple #[.int .u32 (S.halfV bs L (gC c 9) (gC c 0) priv va), vF (S.sF bs L (gC c 9) (gC c 0) priv 0 va 2)]) ∧ Spc w' B pm gm bs t most (T.toNV L n (gC c 9) (gC c 0) priv 0 va) (T.toLV bs most L (gC c 9) (gC c 0) priv 0 va) ∧ Fr B gm w w' := by
  have TO := Lib.hid (fun W hW => STo_c pm gm bs c hc priv 0 va 2 hp (by unfold I64; omega) hv (by unfold I64; omega) B t most n L W hW)
  have hle := h.le
  have hx64 := S.sR_64 (n := 2) (toR_64 (sa := gC c 9) (st := gC c 0) (priv := priv) (kind := 0) h.tl.fine h.mem.byt hv)
  have hcalm := sF_calm bs L (gC c 9) (gC c 0) priv 0 va 2
  have GT := Lib.hid (fun W hW => Get_c pm gm bs (S.sR bs L (gC c 9) (gC c 0) priv 0 va 2) 2 W hW hx64 (by omega))
  have hg2 := S.get2_bd h.mem.byt (S.sR bs L (gC c 9) (gC c 0) priv 0 va 2)
  have hg := gr_alloc (gr_refl w none) (.cells #[.bool false, .int .i64 0, .int .u64 0] 48)
  have HB := Lib.hid (hb.keep hg)
  have HS := Lib.hid (h.keep hg)
  have HZ := Lib.hid (Row.fresh w 48 [.bool false, .int .i64 0, .int .u64 0])
  have HG := Lib.hid (Fr.of_none hg B gm)
  obtain ⟨hv2, hh2⟩ : ∃ y, y = S.halfV bs L (gC c 9) (gC c 0) priv va := ⟨_, rfl⟩
  rw [← hh2]
  unfold S.halfV at hh2
  have HH := Lib.hid hh2
  clear hh2
  generalize S.sR bs L (gC c 9) (gC c 0) priv 0 va 2 = X at *
  generalize S.sF bs L (gC c 9) (gC c 0) priv 0 va 2 = Y at *
  generalize okB bs.length X 2 = ok at *
  generalize getV bs X 2 = G at *
  obtain ⟨pt, lv, gb, isf, ca, vl⟩ := Y
  simp only at HH
  unfold K.Calm at hcalm
  simp only at hcalm
  have HCM := Lib.hid hcalm
  unfold vF vFault at TO ⊢
  simp only at TO ⊢
  rw [vS_eq] at TO
  obtain ⟨a0, a1, a2, a3, a4, a5, a6, a7, a8, a9, a10, a11, rfl⟩ := twelve hc.1
  rw [show vC [a0, a1, a2, a3, a4, a5, a6, a7, a8, a9, a10, a11] = .agg #[.int .u64 a0, .int .u64 a1, .int .u64 a2, .int .u64 a3, .int .u64 a4, .int .u64 a5, .int .u64 a6, .int .u64 a7, .int .u64 a8, .int .u64 a9, .int .u64 a10, .int .u64 a11] from rfl] at *
  clear hc hb h hg hcalm
  unfold I64 at hp
  unfold B64 at hv hx64
  obtain ⟨q, hq⟩ : ∃ q, q = w.heap.size := ⟨_, rfl⟩
  have HQ := Lib.hid hq
  rw [← hq] at HZ hle
  go_enter Try.func86, Try.ntmps86
  go_upto_region 1 with (fail)
  rw [← hq]
  replace HZ : Hid (Row (w.alloc (.cells #[.bool false, .int .i64 0, .int .u64 0] 48)) q 48 [.bool false, .int .i64 0, .int .u64 0]) := HZ
  generalize w.alloc (.cells #[.bool false, .int .i64 0, .int .u64 0] 48) = V at *
  clear hq
  have hB := HB.out
  have k0 : V.cell? ⟨b + 1, 0, none⟩ = some (.int .u64 a0) := hB.csr.cell 0
  have k1 : V.cell? ⟨b + 1, 1, none⟩ = some (.int .u64 a1) := hB.csr.cell 1
  have k2 : V.cell? ⟨b + 1, 2, none⟩ = some (.int .u64 a2) := hB.csr.cell 2
  have k3 : V.cell? ⟨b + 1, 3, none⟩ = some (.int .u64 a3) := hB.csr.cell 3
  have k4 : V.cell? ⟨b + 1, 4, none⟩ = some (.int .u64 a4) := hB.csr.cell 4
  have k5 : V.cell? ⟨b + 1, 5, none⟩ = some (.int .u64 a5) := hB.csr.cell 5
  have k6 : V.cell? ⟨b + 1, 6, none⟩ = some (.int .u64 a6) := hB.csr.cell 6
  have k7 : V.cell? ⟨b + 1, 7, none⟩ = some (.int .u64 a7) := hB.csr.cell 7
  have k8 : V.cell? ⟨b + 1, 8, none⟩ = some (.int .u64 a8) := hB.csr.cell 8
  have k9 : V.cell? ⟨b + 1, 9, none⟩ = some (.int .u64 a9) := hB.csr.cell 9
  have k10 : V.cell? ⟨b + 1, 10, none⟩ = some (.int .u64 a10) := hB.csr.cell 10
  have k11 : V.cell? ⟨b + 1, 11, none⟩ = some (.int .u64 a11) := hB.csr.cell 11
  have p0 : V.cell? ⟨b, 0, none⟩ = some (.pointer (some ⟨pm, 0, none⟩)) := hB.spa.cell 0
  have p1 : V.cell? ⟨b, 1, none⟩ = some (.pointer (vP t)) := hB.spa.cell 1
  have i0 : V.cell? ⟨b + 2, 0, none⟩ = some (.int .i64 priv) := hB.pri.cell 0
  have ltb := hB.pri.lt
  clear hB
  obtain ⟨o, ho⟩ : ∃ o, vP t = o := ⟨_, rfl⟩
  rw [ho] at TO p1
  clear ho
  go_wp2_with fail
  refine (TO.out _ HS.out).mono ?_
  rintro e w1 ⟨rfl, hS, hFr⟩
  have hz1 := hFr.row HZ.out (by decide) (by decide) (HZ.out.apart HS.out.mem.row (by decide))
  have hB1 := HB.out.fr HS.out.mem hFr
  have hf1 := HG.out.trans hFr
  have hg := gr_alloc (gr_refl w1 none) (.cells #[.bool isf, .int .i64 ca, .int .u64 vl] 48)
  have u1 := Row.fresh w1 48 [.bool isf, .int .i64 ca, .int .u64 vl]
  replace hz1 := hz1.grown hg (by simp)
  replace hB1 := hB1.keep hg
  replace hS := hS.keep hg
  replace hf1 := hf1.trans (Fr.of_none hg B gm)
  have ltq : q < w1.heap.size := by have := hFr.size; have := HZ.out.lt; omega
  clear hFr HZ HS HB HG TO hg k0 k1 k2 k3 k4 k5 k6 k7 k8 k9 k10 k11 p0 p1 i0 ltb
  go_upto_region 2 with (fail)
  replace u1 : Row (w1.alloc (.cells #[.bool isf, .int .i64 ca, .int .u64 vl] 48)) w1.heap.size 48 [.bool isf, .int .i64 ca, .int .u64 vl] := u1
  generalize w1.alloc (.cells #[.bool isf, .int .i64 ca, .int .u64 vl] 48) = U at *
  generalize w1.heap.size = u at *
  obtain ⟨⟨l0, l1, l2⟩, -, lu⟩ := fault_free u1
  obtain ⟨⟨z0, z1, z2⟩, fy, lt⟩ := fault_free hz1
  have dn := Lib.hid (fault_own hS hf1 hz1 (by rw [← HQ.out]; exact Nat.le_refl _) (by rw [← HQ.out]; exact hle) (.bool isf) (.int .i64 ca) (.int .u64 vl))
  have p0 : U.cell? ⟨b, 0, none⟩ = some (.pointer (some ⟨pm, 0, none⟩)) := hB1.spa.cell 0
  have ltb := hB1.pri.lt
  have HM := Lib.hid hS.mem
  clear hz1 hS hf1 u1 hB1
  cases isf
  · obtain ⟨rfl, rfl⟩ := HCM.out.1 rfl
    go_wp2_with fail
    refine (GT.out _ HM.out).mono ?_
    rintro e w2 ⟨rfl, rfl⟩
    have hw32 : IntKind.u32.wrap G = G := by rw [IntKind.wrap_u32]; omega
    go_wp2_with fail
    refine ret_IF (b := false) (c := 0) (v := 0) rfl rfl rfl rfl dn.out.1 ⟨?_, dn.out.2⟩
    rw [HH.out]
    simp [vFault]
  · clear GT
    go_wp2_with fail
    go_region
    go_wp2_with fail
    refine ret_IF (b := true) (c := ca) (v := vl) rfl rfl rfl rfl dn.out.1 ⟨?_, dn.out.2.1.drew, dn.out.2.2.drew⟩
    rw [HH.out]
    simp [vFault]
set_option maxRecDepth 100000 in
set_option maxHeartbeats 4000000 in
theorem SFetch_c (pm gm : Nat) (bs : List Int) (c : Cs) (hc : C.Good c) (priv va : Int) (hp : I64 priv) (hv : B64 va) (B : Nat) (t : Option Nat) (most : Nat) (n : Int) (L : List T.Lf) (w : World) (h : Spc w B pm gm bs t most n L) (r : S.Fet) (hr : S.fetchV bs most (gC c 9) (gC c 0) priv va L n = r) :
    Calls Try.prog 43 #[vS pm t, vC c, .int .i64 priv, .int .u64 va] w fun e w' => e = .returned (.tuple #[.int .u32 r.x, vF r.f]) ∧ Spc w' B pm gm bs t most r.n r.L ∧ Fr B gm w w' := by
  have H1 := Lib.hid (fun b W hB hW => half_c pm gm bs c hc priv va hp hv B t most n L b W hB hW)
  have H2 := Lib.hid (fun b n L W hB hW => half_c pm gm bs c hc priv (S.stepA va 2) hp (S.step_64 va 2) B t most n L b W hB hW)
  have hle := h.le
  have hbt := h.mem.byt
  have hl1 := S.half_bd hbt L (gC c 9) (gC c 0) priv va
  have hl2 := S.half_bd hbt (T.toLV bs most L (gC c 9) (gC c 0) priv 0 va) (gC c 9) (gC c 0) priv (S.stepA va 2)
  have hc1 := sF_calm bs L (gC c 9) (gC c 0) priv 0 va 2
  have hc2 := sF_calm bs (T.toLV bs most L (gC c 9) (gC c 0) priv 0 va) (gC c 9) (gC c 0) priv 0 (S.stepA va 2) 2
  have hst : (va + 2) % 18446744073709551616 = S.stepA va 2 := rfl
  obtain ⟨hb, hs3⟩ := Bf.start w pm t c priv
  have hg := gr_alloc (gr_alloc (gr_alloc (gr_refl w none) (.cells #[.pointer (some ⟨pm, 0, none⟩), vT t] 81)) (.cells (lC c).toArray 24)) (.cells #[.int .i64 priv] 3)
  obtain ⟨W3, hW3⟩ : ∃ W3, W3 = (((w.alloc (.cells #[.pointer (some ⟨pm, 0, none⟩), vT t] 81)).alloc (.cells (lC c).toArray 24)).alloc (.cells #[.int .i64 priv] 3)) := ⟨_, rfl⟩
  rw [← hW3] at hb hs3 hg
  have hz := Row.fresh W3 48 [.bool false, .int .i64 0, .int .u64 0]
  have hg4 := gr_alloc (gr_refl W3 none) (.cells #[.bool false, .int .i64 0, .int .u64 0] 48)
  have HB := Lib.hid (hb.keep hg4)
  have HS := Lib.hid (h.keep (gr_trans hg hg4))
  have HF := Lib.hid (Fr.of_none (gr_trans hg hg4) B gm)
  rw [hs3] at hz
  have HZ := Lib.hid hz
  unfold S.fetchV at hr
  have HR0 := Lib.hid hr
  clear hr
  generalize hsa : gC c 9 = sa at *
  generalize hsb : gC c 0 = st at *
  generalize T.toLV bs most L sa st priv 0 va = L1 at *
  generalize T.toNV L n sa st priv 0 va = n1 at *
  have H2' := Lib.hid (fun b W hB hW => H2.out b n1 L1 W hB hW)
  generalize T.toLV bs most L1 sa st priv 0 (S.stepA va 2) = L2 at *
  generalize T.toNV L1 n1 sa st priv 0 (S.stepA va 2) = n2 at *
  generalize S.halfV bs L sa st priv va = x1 at *
  generalize S.sF bs L sa st priv 0 va 2 = f1 at *
  generalize S.halfV bs L1 sa st priv (S.stepA va 2) = x2 at *
  generalize S.sF bs L1 sa st priv 0 (S.stepA va 2) 2 = f2 at *
  clear hb hs3 hg hz hg4 h hsa hsb hbt H2
  obtain ⟨pt, lv, gb, isf, ca, vl⟩ := f1
  obtain ⟨pt2, lv2, gb2, isf2, ca2, vl2⟩ := f2
  obtain ⟨rx, rf, rL, rn⟩ := r
  simp only at HR0
  unfold K.Calm at hc1 hc2
  simp only at hc1 hc2
  have HC1 := Lib.hid hc1
  have HC2 := Lib.hid hc2
  unfold vF vFault at H1 H2'
  simp only at H1 H2'
  rw [vS_eq]
  rw [vT_eq] at hW3
  obtain ⟨a0, a1, a2, a3, a4, a5, a6, a7, a8, a9, a10, a11, rfl⟩ := twelve hc.1
  rw [show vC [a0, a1, a2, a3, a4, a5, a6, a7, a8, a9, a10, a11] = .agg #[.int .u64 a0, .int .u64 a1, .int .u64 a2, .int .u64 a3, .int .u64 a4, .int .u64 a5, .int .u64 a6, .int .u64 a7, .int .u64 a8, .int .u64 a9, .int .u64 a10, .int .u64 a11] from rfl] at *
  rw [show lC [a0, a1, a2, a3, a4, a5, a6, a7, a8, a9, a10, a11] = [.int .u64 a0, .int .u64 a1, .int .u64 a2, .int .u64 a3, .int .u64 a4, .int .u64 a5, .int .u64 a6, .int .u64 a7, .int .u64 a8, .int .u64 a9, .int .u64 a10, .int .u64 a11] from rfl] at hW3
  clear hc hc1 hc2
  unfold I64 at hp
  unfold B64 at hv
  have hand := S.and3_u32 x1 hl1
  have hor := S.or_u32 x2 x1 hl2 hl1
  have hw2 : IntKind.u32.wrap (x2 * 65536) = x2 * 65536 := by rw [IntKind.wrap_u32]; omega
  obtain ⟨q, hq⟩ : ∃ q, q = w.heap.size := ⟨_, rfl⟩
  have HQ := Lib.hid hq
  rw [← hq] at HB HZ hle
  go_enter Try.func43, Try.ntmps43
  go_upto_region 1 with (fail)
  rw [← hq]
  have hV : W3.alloc (.cells #[.bool false, .int .i64 0, .int .u64 0] 48) = ((((w.alloc (.cells #[.pointer (some ⟨pm, 0, none⟩), .pointer (vP t)] 81)).alloc (.cells #[.int .u64 a0, .int .u64 a1, .int .u64 a2, .int .u64 a3, .int .u64 a4, .int .u64 a5, .int .u64 a6, .int .u64 a7, .int .u64 a8, .int .u64 a9, .int .u64 a10, .int .u64 a11] 24)).alloc (.cells #[.int .i64 priv] 3)).alloc (.cells #[.bool false, .int .i64 0, .int .u64 0] 48)) := by rw [hW3]
  rw [← hV]
  clear hV hW3
  generalize W3.alloc (.cells #[.bool false, .int .i64 0, .int .u64 0] 48) = V at *
  clear hq
  go_wp2_with fail
  refine (H1.out _ _ HB.out HS.out).mono ?_
  rintro e w1 ⟨rfl, hS, hFr⟩
  have hz1 := hFr.row HZ.out (by decide) (by decide) (HZ.out.apart HS.out.mem.row (by decide))
  have hB1 := HB.out.fr HS.out.mem hFr
  have hf1 := HF.out.trans hFr
  have hg := gr_alloc (gr_refl w1 none) (.cells #[.bool isf, .int .i64 ca, .int .u64 vl] 48)
  have u1 := Row.fresh w1 48 [.bool isf, .int .i64 ca, .int .u64 vl]
  replace hz1 := hz1.grown hg (by simp)
  replace hB1 := hB1.keep hg
  replace hS := hS.keep hg
  replace hf1 := hf1.trans (Fr.of_none hg B gm)
  have ltq : q + 3 < w1.heap.size := by have := hFr.size; have := HZ.out.lt; omega
  clear hFr HZ HS HB HF H1 hg
  go_upto_region 3 with (fail)
  replace u1 : Row (w1.alloc (.cells #[.bool isf, .int .i64 ca, .int .u64 vl] 48)) w1.heap.size 48 [.bool isf, .int .i64 ca, .int .u64 vl] := u1
  generalize w1.alloc (.cells #[.bool isf, .int .i64 ca, .int .u64 vl] 48) = U at *
  generalize w1.heap.size = u at *
  obtain ⟨⟨l0, l1, l2⟩, fu, lu⟩ := fault_free u1
  by_cases hcond : (isf || decide (x1 % 4 ≠ 3)) = true
  · have hrr := HR0.out
    rw [if_pos hcond] at hrr
    have HR := Lib.hid hrr
    obtain ⟨⟨z0, z1, z2⟩, fy, lt⟩ := fault_free hz1
    have dn := Lib.hid (fault_own hS hf1 hz1 (by rw [← HQ.out]; omega) (by rw [← HQ.out]; exact hle) (.bool isf) (.int .i64 ca) (.int .u64 vl))
    clear hz1 hS hf1 u1 hB1 hrr
    cases isf
    · have hne : (x1 % 4 == 3) = false := by simpa using hcond
      have hne2 : x1 % 4 ≠ 3 := by simpa using hcond
      clear hcond
      go_wp2_with fail
      go_region
      go_wp2_with fail
      refine ret_IF (b := false) (c := ca) (v := vl) rfl rfl rfl rfl dn.out.1 ?_
      obtain ⟨rfl, rfl, rfl, rfl⟩ : x1 = rx ∧ (⟨pt, lv, gb, false, ca, vl⟩ : Wr) = rf ∧ L1 = rL ∧ n1 = rn := by have := HR.out; injection this with a b c d; exact ⟨a, b, c, d⟩
      exact ⟨rfl, dn.out.2.1.drew, dn.out.2.2.drew⟩
    · clear hcond
      go_wp2_with fail
      go_region
      go_wp2_with fail
      refine ret_IF (b := true) (c := ca) (v := vl) rfl rfl rfl rfl dn.out.1 ?_
      obtain ⟨rfl, rfl, rfl, rfl⟩ : x1 = rx ∧ (⟨pt, lv, gb, true, ca, vl⟩ : Wr) = rf ∧ L1 = rL ∧ n1 = rn := by have := HR.out; injection this with a b c d; exact ⟨a, b, c, d⟩
      exact ⟨rfl, dn.out.2.1.drew, dn.out.2.2.drew⟩
  · have hrr := HR0.out
    rw [if_neg hcond] at hrr
    have HR := Lib.hid hrr
    obtain ⟨hisf, heq⟩ : isf = false ∧ x1 % 4 = 3 := by simpa using hcond
    subst hisf
    have HU := Lib.hid (And.intro u1 (And.intro hz1 (And.intro hB1 (And.intro hS hf1))))
    clear hz1 hS hf1 u1 hB1 hrr hcond
    go_upto_region 5 with (fail)
    clear l0 l1 l2 fu lu
    go_wp2_with fail
    refine (H2'.out _ _ HU.out.2.2.1 HU.out.2.2.2.1).mono ?_
    rintro e w2 ⟨rfl, hS, hFr⟩
    obtain ⟨u1, hz1, hB1, hS1, hf1⟩ := HU.out
    have u2 := hFr.row u1 (by decide) (by decide) (u1.apart hS1.mem.row (by decide))
    have hz2 := hFr.row hz1 (by decide) (by decide) (hz1.apart hS1.mem.row (by decide))
    have hf2 := hf1.trans hFr
    obtain ⟨⟨l0, l1, l2⟩, fu, lu⟩ := fault_free u2
    have hquu : q + 3 ≠ u := by omega
    have du := Lib.hid (And.intro (fault_own hS hf2 u2 (by rw [← HQ.out]; omega) (by rw [← HQ.out]; exact hle) (.bool isf2) (.int .i64 ca2) (.int .u64 vl2)) (hz2.grown (gr_set3 w2 u (.bool isf2) (.int .i64 ca2) (.int .u64 vl2)) (some_ne hquu)))
    clear u1 hz1 hB1 hS1 hf1 u2 hz2 hf2 HU H2' hS hFr
    go_upto_region 6 with (fail)
    obtain ⟨⟨u3, hS, hF⟩, hz3⟩ := du.out
    clear du l0 l1 l2 fu lu
    generalize (((w2.setCell ⟨u, 0, none⟩ (.bool isf2)).setCell ⟨u, 1, none⟩ (.int .i64 ca2)).setCell ⟨u, 2, none⟩ (.int .u64 vl2)) = Z at *
    obtain ⟨⟨l0, l1, l2⟩, fu, lu⟩ := fault_free u3
    obtain ⟨⟨z0, z1, z2⟩, fy, lt⟩ := fault_free hz3
    have dn := Lib.hid (fun x y z => fault_own hS hF hz3 (by rw [← HQ.out]; omega) (by rw [← HQ.out]; exact hle) x y z)
    clear hz3 hS hF u3
    cases isf2
    · obtain ⟨rfl, rfl⟩ := HC2.out.1 rfl
      go_wp2_with fail
      refine ret_IF (b := false) (c := 0) (v := 0) rfl rfl rfl rfl (dn.out (.bool false) (.int .i64 0) (.int .u64 0)).1 ?_
      obtain ⟨rfl, rfl, rfl, rfl⟩ : x2 * 65536 + x1 = rx ∧ (⟨pt2, lv2, gb2, false, 0, 0⟩ : Wr) = rf ∧ L2 = rL ∧ n2 = rn := by have := HR.out; injection this with a b c d; exact ⟨a, b, c, d⟩
      exact ⟨rfl, (dn.out (.bool false) (.int .i64 0) (.int .u64 0)).2⟩
    · go_wp2_with fail
      go_region
      go_wp2_with fail
      refine ret_IF (b := true) (c := ca2) (v := vl2) rfl rfl rfl rfl (dn.out (.bool true) (.int .i64 ca2) (.int .u64 vl2)).1 ?_
      obtain ⟨rfl, rfl, rfl, rfl⟩ : 0 = rx ∧ (⟨pt2, lv2, gb2, true, ca2, vl2⟩ : Wr) = rf ∧ L2 = rL ∧ n2 = rn := by have := HR.out; injection this with a b c d; exact ⟨a, b, c, d⟩
      exact ⟨rfl, (dn.out (.bool true) (.int .i64 ca2) (.int .u64 vl2)).2.1.drew, (dn.out (.bool true) (.int .i64 ca2) (.int .u64 vl2)).2.2.drew⟩
end Go.Proofs.Ytkfmcbhoendocaa
end
