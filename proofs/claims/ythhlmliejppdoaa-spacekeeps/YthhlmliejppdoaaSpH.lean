/-
  Loads and stores (space.Load, Store): contracts over the program's translation.
  Conditions: the arguments are numbers of their kinds; the space stands; of 1, 2, 4 or 8 bytes.
-/
import Derived.Test.YthhlmliejppdoaaLayE
namespace Go.Proofs.Ythhlmliejppdoaa
open Go Go.RowKit W M D A C P K
set_option linter.unusedVariables false

theorem get1_bd {bs : List Int} (h : Byt bs) (a : Int) : 0 ≤ getV bs a 1 ∧ getV bs a 1 ≤ 255 := by
  unfold getV
  split
  · have := leV_bd _ (take_byt (drop_byt h (offV a)) (1 : Int).toNat)
    have hl : ((bs.drop (offV a)).take (1 : Int).toNat).length ≤ 1 := by simp; omega
    have hp := p256_le hl
    omega
  · omega
def gets (bs : List Int) (all : List Int) : List Int := all.map fun a => getV bs a 1
theorem gets_byt {bs : List Int} (h : Byt bs) (all : List Int) : Byt (gets bs all) := by
  intro b hb
  obtain ⟨a, -, rfl⟩ := List.mem_map.1 hb
  exact get1_bd h a
theorem load_step {bs : List Int} (h : Byt bs) {all : List Int} {i : Nat} (hi : i < all.length) (h8 : all.length ≤ 8) :
    (0 ≤ leV ((gets bs all).take i) ∧ leV ((gets bs all).take i) < 256 ^ i) ∧ leV ((gets bs all).take (i + 1)) = leV ((gets bs all).take i) + 256 ^ i * getV bs (all.getD i 0) 1 := by
  have hl : (gets bs all).length = all.length := by simp [gets]
  have hlk : ((gets bs all).take i).length = i := by rw [List.length_take, hl]; omega
  have hb := leV_bd _ (take_byt (gets_byt h all) i)
  rw [hlk] at hb
  refine ⟨hb, ?_⟩
  rw [take_snoc _ _ (by rw [hl]; omega), leV_snoc, hlk]
  congr 2
  unfold gets
  simp [List.getD, List.getElem?_eq_getElem hi]
set_option maxRecDepth 100000 in
set_option maxHeartbeats 4000000 in
theorem SLoad_c (pm gm : Nat) (bs : List Int) (c : Cs) (hc : C.Good c) (priv va : Int) (m : Nat) (hp : I64 priv) (hv : B64 va) (hm : m = 1 ∨ m = 2 ∨ m = 4 ∨ m = 8) (B : Nat) (t : Option Nat) (most : Nat) (n : Int) (L : List T.Lf) (w : World) (h : Spc w B pm gm bs t most n L) (r : S.Ans) (hr : S.realsV bs most (gC c 9) (gC c 0) priv 1 va m L n = r) :
    Calls Try.prog 38 #[vS pm t, vC c, .int .i64 priv, .int .u64 va, .int .i64 m] w fun e w' => e = .returned (.tuple #[.int .u64 (S.loadX bs r.all), vF r.f]) ∧ Spc w' B pm gm bs t most r.n r.L ∧ Fr B gm w w' := by
  have RE := Lib.hid (fun W hW => reals_c pm gm bs c hc priv 1 va m hp (by unfold I64; omega) hv hm B t most n L W hW)
  rw [hr] at RE
  have HBY := Lib.hid h.mem.byt
  have HF0 := Lib.hid (Sip.start (c := c) w h)
  obtain ⟨x, hx⟩ : ∃ x, x = S.loadX bs r.all := ⟨_, rfl⟩
  rw [← hx]
  have HX := Lib.hid hx
  have GT := Lib.hid (fun a W hW ha => Get_c pm gm bs a 1 W hW ha (by omega))
  obtain ⟨⟨pt, lv, gb, isf, ca, vl⟩, all, L', n'⟩ := r
  simp only at HX
  unfold Gave at RE
  simp only at RE ⊢
  unfold vF vFault at RE ⊢
  simp only at RE ⊢
  rw [vS_eq] at RE ⊢
  obtain ⟨a0, a1, a2, a3, a4, a5, a6, a7, a8, a9, a10, a11, rfl⟩ := twelve hc.1
  rw [show vC [a0, a1, a2, a3, a4, a5, a6, a7, a8, a9, a10, a11] = .agg #[.int .u64 a0, .int .u64 a1, .int .u64 a2, .int .u64 a3, .int .u64 a4, .int .u64 a5, .int .u64 a6, .int .u64 a7, .int .u64 a8, .int .u64 a9, .int .u64 a10, .int .u64 a11] from rfl] at *
  clear hc h hr hx
  unfold I64 at hp
  unfold B64 at hv
  go_enter Try.func38, Try.ntmps38
  go_upto_region 1 with (fail)
  have hF := HF0.out
  clear HF0
  rw [vT_eq] at hF
  unfold lC lFault at hF
  simp only [List.map_cons, List.map_nil] at hF
  have hF : Sip w w.heap.size pm gm bs [a0, a1, a2, a3, a4, a5, a6, a7, a8, a9, a10, a11] B t most n L (((w.alloc (.cells #[.pointer (some ⟨pm, 0, none⟩), .pointer (vP t)] 73)).alloc (.cells #[.int .u64 a0, .int .u64 a1, .int .u64 a2, .int .u64 a3, .int .u64 a4, .int .u64 a5, .int .u64 a6, .int .u64 a7, .int .u64 a8, .int .u64 a9, .int .u64 a10, .int .u64 a11] 39)).alloc (.cells #[.bool false, .int .i64 0, .int .u64 0] 49)) := hF
  generalize (((w.alloc (.cells #[.pointer (some ⟨pm, 0, none⟩), .pointer (vP t)] 73)).alloc (.cells #[.int .u64 a0, .int .u64 a1, .int .u64 a2, .int .u64 a3, .int .u64 a4, .int .u64 a5, .int .u64 a6, .int .u64 a7, .int .u64 a8, .int .u64 a9, .int .u64 a10, .int .u64 a11] 39)).alloc (.cells #[.bool false, .int .i64 0, .int .u64 0] 49)) = V at *
  generalize hbb : w.heap.size = b at *
  have HBB := Lib.hid hbb
  have k0 : V.cell? ⟨b + 1, 0, none⟩ = some (.int .u64 a0) := hF.csr.cell 0
  have k1 : V.cell? ⟨b + 1, 1, none⟩ = some (.int .u64 a1) := hF.csr.cell 1
  have k2 : V.cell? ⟨b + 1, 2, none⟩ = some (.int .u64 a2) := hF.csr.cell 2
  have k3 : V.cell? ⟨b + 1, 3, none⟩ = some (.int .u64 a3) := hF.csr.cell 3
  have k4 : V.cell? ⟨b + 1, 4, none⟩ = some (.int .u64 a4) := hF.csr.cell 4
  have k5 : V.cell? ⟨b + 1, 5, none⟩ = some (.int .u64 a5) := hF.csr.cell 5
  have k6 : V.cell? ⟨b + 1, 6, none⟩ = some (.int .u64 a6) := hF.csr.cell 6
  have k7 : V.cell? ⟨b + 1, 7, none⟩ = some (.int .u64 a7) := hF.csr.cell 7
  have k8 : V.cell? ⟨b + 1, 8, none⟩ = some (.int .u64 a8) := hF.csr.cell 8
  have k9 : V.cell? ⟨b + 1, 9, none⟩ = some (.int .u64 a9) := hF.csr.cell 9
  have k10 : V.cell? ⟨b + 1, 10, none⟩ = some (.int .u64 a10) := hF.csr.cell 10
  have k11 : V.cell? ⟨b + 1, 11, none⟩ = some (.int .u64 a11) := hF.csr.cell 11
  have p0 : V.cell? ⟨b, 0, none⟩ = some (.pointer (some ⟨pm, 0, none⟩)) := hF.spa.cell 0
  have p1 : V.cell? ⟨b, 1, none⟩ = some (.pointer (vP t)) := hF.spa.cell 1
  have ltb := hF.csr.lt
  have HF := Lib.hid hF
  clear hF hbb
  generalize vP t = o at *
  go_wp2_with fail
  refine (RE.out _ HF.out.st).mono ?_
  rintro e w1 ⟨v, rfl, hA, hS, hFr⟩
  have hF1 := HF.out.turn hS hFr
  have hle := HF.out.flt.lt
  have q1 := Row.fresh w1 49 [.bool isf, .int .i64 ca, .int .u64 vl]
  have hg := gr_alloc (gr_refl w1 none) (.cells #[.bool isf, .int .i64 ca, .int .u64 vl] 49)
  have hF2 := hF1.keep hg
  have lt1 := hF1.flt.lt
  replace hA : Adr (w1.alloc (.cells #[.bool isf, .int .i64 ca, .int .u64 vl] 49)) v all V.heap.size := by
    rcases hA with hA | ⟨g, h1, h2, h3⟩
    · exact .inl hA
    · exact .inr ⟨g, h1, h2.grown hg (by simp), h3⟩
  clear HF hS hFr k0 k1 k2 k3 k4 k5 k6 k7 k8 k9 k10 k11 p0 p1 ltb RE hF1 hg
  go_upto_region 2 with (fail)
  replace q1 : Row (w1.alloc (.cells #[.bool isf, .int .i64 ca, .int .u64 vl] 49)) w1.heap.size 49 [.bool isf, .int .i64 ca, .int .u64 vl] := q1
  generalize w1.alloc (.cells #[.bool isf, .int .i64 ca, .int .u64 vl] 49) = U at *
  generalize w1.heap.size = q at *
  obtain ⟨⟨l0, l1, l2⟩, -, lq⟩ := fault_free q1
  obtain ⟨⟨z0, z1, z2⟩, fy, lt, p0, -⟩ := hF2.facts
  have dn := Lib.hid (hF2.done (.bool isf) (.int .i64 ca) (.int .u64 vl))
  have HM := Lib.hid hF2.st.mem
  clear hF2 q1
  rcases hA with ⟨rfl, rfl⟩ | ⟨g, rfl, hR, -, h64, h8⟩
  · have hx0 : x = 0 := by rw [HX.out]; rfl
    subst hx0
    go_wp2_with fail
    go_loop [30, 14] (fun i x => i = .int .i64 0 ∧ x = .int .u64 0) (fun i _ => 0)
    case atStart => exact ⟨rfl, rfl⟩
    case round =>
      obtain ⟨rfl, rfl⟩ := hrel
      go_wp2_with fail
      go_region
      go_wp2_with fail
      exact ret_IF (b := isf) (c := ca) (v := vl) rfl rfl rfl rfl dn.out.1 ⟨rfl, dn.out.2.1.drew, dn.out.2.2.drew⟩
  · have HR := Lib.hid (And.intro hR (And.intro h64 h8))
    have hn8 : all.length ≤ 8 := h8
    clear hR h64 h8
    obtain ⟨N, hN⟩ : ∃ N, N = all.length := ⟨_, rfl⟩
    rw [← hN] at hn8 ⊢
    have HN := Lib.hid hN
    clear hN
    go_wp2_with fail
    go_loop [30, 14] (fun i x => ∃ k : Nat, k ≤ N ∧ i = .int .i64 k ∧ x = .int .u64 (leV ((gets bs all).take k))) (fun i _ => N - (intOf i).toNat)
    case atStart => exact ⟨0, Nat.zero_le _, rfl, rfl⟩
    case round =>
      obtain ⟨k, hk, rfl, rfl⟩ := hrel
      by_cases hlt : k < N
      · have hka : k < all.length := by rw [← HN.out]; exact hlt
        obtain ⟨a, ha⟩ : ∃ a, a = all.getD k 0 := ⟨_, rfl⟩
        have hmem : a ∈ all := by rw [ha]; simp [List.getD, List.getElem?_eq_getElem hka]
        have hcell : U.cell? ⟨g, k, none⟩ = some (.int .u64 a) := by rw [HR.out.1.cell, ha]; simp [wrds, List.getD, List.getElem?_eq_getElem hka]
        obtain ⟨hx, hst⟩ := load_step HBY.out hka HR.out.2.2
        rw [← ha] at hst
        have G1 := Lib.hid (GT.out a U HM.out (HR.out.2.1 a hmem))
        obtain ⟨hb0, hb1⟩ := get1_bd HBY.out a
        generalize getV bs a 1 = b' at *
        have HST := Lib.hid hst
        have HXX := Lib.hid hx
        have HK := Lib.hid hka
        clear ha hmem hx hst hka
        go_wp2_with fail
        refine G1.out.mono ?_
        rintro e w' ⟨rfl, rfl⟩
        go_wp2_with fail
        go_round
        case rel => exact ⟨k + 1, by omega, by go_num, by rw [or_step _ _ _ (by omega) HXX.out ⟨hb0, hb1⟩, HST.out]⟩
        case measure => simp [intOf]; omega
      · obtain rfl : k = N := by omega
        have hxe : leV ((gets bs all).take k) = x := by
          rw [HX.out, List.take_of_length_le (by rw [HN.out]; simp [gets])]
          rfl
        rw [hxe]
        go_wp2_with fail
        go_region
        go_wp2_with fail
        exact ret_IF (b := isf) (c := ca) (v := vl) rfl rfl rfl rfl dn.out.1 ⟨rfl, dn.out.2.1.drew, dn.out.2.2.drew⟩
end Go.Proofs.Ythhlmliejppdoaa
