/-
  The head of layer 13's statements (both): a space, two times: contracts over the program's translation.
  The head of layer 13's statements (both), of a space with what keeps leaves: a contract over the program's translation.
  Conditions: each part's own: the arguments are numbers of their kinds; the tables hold what the program's text lays.
-/
import Derived.Test.YtkfmcbhoendocaaSpM
import Derived.Test.YtkfmcbhoendocaaTlbB
import Derived.Deep.RegionWith
section
namespace Go.Proofs.Ytkfmcbhoendocaa
open Go Go.RowKit W M D A C P K
set_option linter.unusedVariables false
set_option linter.unusedSimpArgs false

theorem space_size (x y : Value) : (Try.prog.info? 81).map (·.size) = some ([x, y] : List Value).toArray.size := by kernel_rfl
theorem cells2 {w : World} {g : Nat} {t : TypeId} {x y : Value} (h : Row w g t [x, y]) : w.cell? ⟨g, 0, none⟩ = some x ∧ w.cell? ⟨g, 1, none⟩ = some y := ⟨h.cell 0, h.cell 1⟩
theorem ret_S2 {fn : Func} {p u v : Tmp} (h : fn.results = #[.cell p 81, .tmp u, .tmp v]) {R : Ending → World → Prop} {a : Act} {w : World} {k : Nat} {s0 s1 x y : Value}
    (hp : a.tmps.getD p undef = .pointer (some ⟨k, 0, none⟩)) (hu : a.tmps.getD u undef = x) (hv : a.tmps.getD v undef = y) (hd : a.defers = [])
    (hF : Row w k 81 [s0, s1]) (hQ : R (.returned (.tuple #[.agg #[s0, s1], x, y])) w) : bodyPost Try.prog fn R .ret a w := by
  refine bodyPost_ret (v := .tuple #[.agg #[s0, s1], x, y]) ?_ hd hQ
  have hp' : a.tmps[p]?.getD undef = .pointer (some ⟨k, 0, none⟩) := by simpa using hp
  have hu' : a.tmps[u]?.getD undef = x := by simpa using hu
  have hv' : a.tmps[v]?.getD undef = y := by simpa using hv
  have lb : (loadVar 81 ⟨k, 0, none⟩).run Try.prog w = .ok (.agg ([s0, s1] : List Value).toArray) w := run_loadVar_row _ _ _ _ _ (0, 0) _ hF Try.underlying81 rfl (space_size s0 s1)
  simp [results, h, hp', hu', hv', asAddr, lb]
theorem rNew12_c (most : Int) (hm : I64 most) (w : World) :
    Calls Try.prog 25 #[.int .i64 most] w fun e w' => e = .returned (.pointer (some ⟨w.heap.size, 0, none⟩)) ∧ Row w' w.heap.size 73 [.int .i64 (T.mostV most), .slice none 0 0, .int .u64 0] ∧ w.grownBy w' none := by
  unfold I64 at hm
  have hr := Lib.hid (fun x : Int => Row.fresh w 73 [.int .i64 x, .slice none 0 0, .int .u64 0])
  have hx : ((T.mostV most : Nat) : Int) = min (max most 0) 8 := by unfold T.mostV; omega
  have HX := Lib.hid hx
  clear hx
  go_enter Try.func25, Try.ntmps25
  go_wp2_with fail
  all_goals go_ret
  all_goals refine ⟨rfl, ?_, gr_alloc (gr_refl _ _) _⟩
  all_goals rw [HX.out]
  all_goals first
    | (rw [show min (max most 0) 8 = most by omega]; exact hr.out _)
    | (rw [show min (max most 0) 8 = 0 by omega]; exact hr.out _)
    | (rw [show min (max most 0) 8 = 8 by omega]; exact hr.out _)
/-- What stands while numbers are written. -/
structure TwinS (w : World) (B b p g p' g' : Nat) (a : Int) (A : Option Addr) (n k : Nat) (f h : Nat → Int) (bs cs : List Int) (wr : World) : Prop where
  arg : Row wr b 78 [.int .u8 a, .slice A n k]
  res : Row wr (b + 1) 81 [.pointer none, .pointer none]
  one : RAt wr p g bs
  two : QAt wr p' g' cs
  els : Elems wr B A n f h
  gr : w.grownBy wr none
  sz : w.heap.size = B
  ord : B ≤ b ∧ b + 1 < g ∧ g < p ∧ p < g' ∧ g' < p'
section
variable {w wr ws : World} {B b p g p' g' : Nat} {a : Int} {A : Option Addr} {n k : Nat} {f h : Nat → Int} {bs cs ds : List Int}
theorem TwinS.put1 (t : TwinS w B b p g p' g' a A n k f h bs cs wr) (hm : RAt ws p g ds) (hg : wr.grownBy ws (some g)) : TwinS w B b p g p' g' a A n k f h ds cs ws := by
  have o := t.ord
  have s := t.sz
  have z := t.gr.size
  exact ⟨t.arg.grown hg (some_ne (by omega)), t.res.grown hg (some_ne (by omega)), hm, t.two.grown hg (some_ne (by omega)) (some_ne (by omega)), t.els.turn fun ad had => cell_grown hg (by omega) (some_ne (by omega)), gr_row (gr_trans (gr_none t.gr _) hg) (by omega), s, o⟩
theorem TwinS.put2 (t : TwinS w B b p g p' g' a A n k f h bs cs wr) (hm : QAt ws p' g' ds) (hg : wr.grownBy ws (some g')) : TwinS w B b p g p' g' a A n k f h bs ds ws := by
  have o := t.ord
  have s := t.sz
  have z := t.gr.size
  exact ⟨t.arg.grown hg (some_ne (by omega)), t.res.grown hg (some_ne (by omega)), t.one.grown hg (some_ne (by omega)) (some_ne (by omega)), hm, t.els.turn fun ad had => cell_grown hg (by omega) (some_ne (by omega)), gr_row (gr_trans (gr_none t.gr _) hg) (by omega), s, o⟩
end
/-- A space without what keeps leaves, two times. -/
def BothN (w : World) (bs : List Int) (most : Int) (e : Ending) (w' : World) : Prop :=
  ∃ pm gm p' g' ys tr, e = .returned (.tuple #[vS pm none, .pointer (some ⟨ys, 0, none⟩), .bool true]) ∧ RAt w' pm gm bs ∧ w.heap.size ≤ gm ∧ QAt w' p' g' bs ∧ g' ≠ gm ∧
    Row w' ys 101 [.pointer (some ⟨p', 0, none⟩), .pointer (some ⟨tr, 0, none⟩), .bool false] ∧ Row w' tr 73 [.int .i64 (T.mostV most), .slice none 0 0, .int .u64 0] ∧ w.grownBy w' none ∧ w.heap.size ≤ g' ∧ w.heap.size ≤ tr

theorem set_size (w : World) (a : Addr) (v : Value) : (w.setCell a v).heap.size = w.heap.size := by simp [World.setCell]
theorem fin_S {w wr U w3 : World} {b g' : Nat} {a : Int} {A : Option Addr} {n k : Nat} {f h : Nat → Int} {cs : List Int} {tr : Nat} {tl : List Value} (HT : TwinS w b b (b + 2 + 1) (b + 2) (g' + 1) g' a A n k f h cs cs wr) (hg : wr.grownBy U none) (hG : U.grownBy w3 none)
    (hR : Row w3 tr 73 tl) (s0 s1 x y z : Value) :
    Row (((w3.setCell ⟨b + 1, 0, none⟩ s0).setCell ⟨b + 1, 1, none⟩ s1).alloc (.cells #[x, y, z] 101)) (b + 1) 81 [s0, s1] ∧
    RAt (((w3.setCell ⟨b + 1, 0, none⟩ s0).setCell ⟨b + 1, 1, none⟩ s1).alloc (.cells #[x, y, z] 101)) (b + 2 + 1) (b + 2) cs ∧
    QAt (((w3.setCell ⟨b + 1, 0, none⟩ s0).setCell ⟨b + 1, 1, none⟩ s1).alloc (.cells #[x, y, z] 101)) (g' + 1) g' cs ∧
    Row (((w3.setCell ⟨b + 1, 0, none⟩ s0).setCell ⟨b + 1, 1, none⟩ s1).alloc (.cells #[x, y, z] 101)) w3.heap.size 101 [x, y, z] ∧
    Row (((w3.setCell ⟨b + 1, 0, none⟩ s0).setCell ⟨b + 1, 1, none⟩ s1).alloc (.cells #[x, y, z] 101)) tr 73 tl ∧
    w.grownBy (((w3.setCell ⟨b + 1, 0, none⟩ s0).setCell ⟨b + 1, 1, none⟩ s1).alloc (.cells #[x, y, z] 101)) none ∧
    w3.grownBy (((w3.setCell ⟨b + 1, 0, none⟩ s0).setCell ⟨b + 1, 1, none⟩ s1).alloc (.cells #[x, y, z] 101)) (some (b + 1)) := by
  have o := HT.ord
  have sz := HT.sz
  have h3 := gr_trans hg hG
  have hs := HT.res.grown h3 (by simp)
  have hgs := gr_alloc (gr_set (i := 1) (gr_set (i := 0) (gr_refl w3 (some (b + 1))) s0) s1) (.cells #[x, y, z] 101)
  have hz : ((w3.setCell ⟨b + 1, 0, none⟩ s0).setCell ⟨b + 1, 1, none⟩ s1).heap.size = w3.heap.size := by rw [set_size, set_size]
  have hf := Row.fresh ((w3.setCell ⟨b + 1, 0, none⟩ s0).setCell ⟨b + 1, 1, none⟩ s1) 101 [x, y, z]
  rw [hz] at hf
  have hn : some (b + 2 + 1) ≠ some (b + 1) := some_ne (by omega)
  exact ⟨((hs.put 0 s0).put 1 s1).alloc _, (HT.one.kept h3).grown hgs (some_ne (by omega)) (some_ne (by omega)), (HT.two.kept h3).grown hgs (some_ne (by omega)) (some_ne (by omega)), hf,
    hR.grown hgs (some_ne (hR.apart hs (by decide))), gr_row (gr_trans (gr_none (gr_trans HT.gr h3) _) hgs) (by omega), hgs⟩
set_option maxRecDepth 100000 in
set_option maxHeartbeats 4000000 in
theorem bothN_c (most : Int) (hm : I64 most) (hneg : most < 0) (a : Int) (ha : 0 ≤ a ∧ a ≤ 255) (A : Option Addr) (n k : Nat) (hnk : n ≤ k) (hk : k ≤ 9223372036854775807) (f h : Nat → Int) (w : World) (hE : Elems w w.heap.size A n f h) :
    Calls Try.prog 34 #[.agg #[.int .u8 a, .slice A n k], .int .i64 most] w (BothN w (fillV f h (min n 64) (List.replicate ((1 + a % 16).toNat * 4096) 0)) most) := by
  obtain ⟨q, hq1, hq4, hqe⟩ : ∃ q : Nat, 1 ≤ q ∧ q ≤ 16 ∧ (1 : Int) + a % 16 = q := ⟨(1 + a % 16).toNat, by omega, by omega, by omega⟩
  have hand := and_15 a ha
  rw [hqe, Int.toNat_natCast]
  obtain ⟨N, hN⟩ : ∃ N, N = min n 64 := ⟨_, rfl⟩
  rw [← hN]
  have hNa : N ≤ n := by omega
  have hNb : N ≤ 64 := by omega
  have HNc := Lib.hid (show N = n ∨ N = 64 by omega)
  clear hN
  obtain ⟨z, hz⟩ : ∃ z, z = List.replicate (q * 4096) (0 : Int) := ⟨_, rfl⟩
  rw [← hz]
  have HZ := Lib.hid hz
  have RN := Lib.hid (fun W => rNew12_c most hm W)
  obtain ⟨W0, hW0⟩ : ∃ W0, W0 = (w.alloc (.cells #[.int .u8 a, .slice A n k] 78)).alloc (.cells #[.pointer none, .pointer none] 81) := ⟨_, rfl⟩
  have hs1 : (w.alloc (.cells #[.int .u8 a, .slice A n k] 78)).heap.size = w.heap.size + 1 := Array.size_push ..
  have hs0 : W0.heap.size = w.heap.size + 2 := by rw [hW0]; exact (Array.size_push ..).trans (by rw [hs1])
  have hr0 : Row W0 w.heap.size 78 [.int .u8 a, .slice A n k] := by rw [hW0]; exact (Row.fresh w 78 [.int .u8 a, .slice A n k]).alloc _
  have hr1 : Row W0 (w.heap.size + 1) 81 [.pointer none, .pointer none] := by rw [hW0, ← hs1]; exact Row.fresh _ 81 [.pointer none, .pointer none]
  have hg0 : w.grownBy W0 none := by rw [hW0]; exact gr_alloc (gr_alloc (gr_refl w none) _) _
  have HW := Lib.hid (And.intro hs0 (And.intro hr0 (And.intro hr1 (And.intro hg0 hE))))
  clear hE hz hs1 hs0 hr0 hr1 hg0
  have hge : decide (0 ≤ most) = false := by simp; omega
  unfold I64 at hm
  go_enter Try.func34, Try.ntmps34
  go_upto_region 1 with (fail)
  rw [← hW0]
  clear hW0
  obtain ⟨hs0, hr0, hr1, hg0, hE⟩ := HW.out
  have m0 : W0.cell? ⟨w.heap.size, 0, none⟩ = some (.int .u8 a) := hr0.cell 0
  have m1 : W0.cell? ⟨w.heap.size, 1, none⟩ = some (.slice A n k) := hr0.cell 1
  have lt0 := hr0.lt
  clear hs0 hr0 hr1 hg0 hE
  go_wp2_with fail
  refine (New_yes q (by omega) (by omega) _).mono ?_
  rintro e wa ⟨rfl, hA, hGa⟩
  rw [← HZ.out] at hA
  clear m0 m1 lt0
  go_wp2_with fail
  refine (rNew_yes q (by omega) (by omega) _).mono ?_
  rintro e wb ⟨rfl, hB, hGb⟩
  rw [← HZ.out] at hB
  obtain ⟨hs0, hr0, hr1, hg0, hE⟩ := HW.out
  rw [hs0] at hA
  have hza := hA.ptr.lt
  have hT : TwinS w w.heap.size w.heap.size (w.heap.size + 2 + 1) (w.heap.size + 2) (wa.heap.size + 1) wa.heap.size a A n k f h z z wb :=
    ⟨(hr0.grown hGa (by simp)).grown hGb (by simp), (hr1.grown hGa (by simp)).grown hGb (by simp), hA.kept hGb, hB, hE.turn fun ad had => cell_grown (gr_trans (gr_trans hg0 hGa) hGb) had (by simp), gr_trans (gr_trans hg0 hGa) hGb, rfl, by omega⟩
  rw [hs0]
  clear hA hB hza hGa hGb HW hs0 hr0 hr1 hg0 hE
  generalize w.heap.size = b at *
  generalize wa.heap.size = g' at *
  go_wp2_with fail
  go_loopw [12] (fun i wr => ∃ j : Nat, j ≤ N ∧ i = .int .i64 j ∧ TwinS w b b (b + 2 + 1) (b + 2) (g' + 1) g' a A n k f h (fillV f h j z) (fillV f h j z) wr) (fun i _ => N - (intOf i).toNat)
  case atStart => exact ⟨0, Nat.zero_le _, rfl, hT⟩
  case round =>
    clear hT
    obtain ⟨j, hj, rfl, hT⟩ := hrel
    have hc1 : wr.cell? ⟨b, 1, none⟩ = some (.slice A n k) := hT.arg.cell 1
    have hlt := hT.arg.lt
    by_cases hjN : j < N
    · obtain ⟨ad, rfl, hadb, u0, v0, u1, v1⟩ := hT.els j (by omega)
      have hjn : j < n := by omega
      have hj64 : j < 64 := by omega
      have V1 := Lib.hid v1
      have hx := and_8 (f j) v0
      have hspot : 2147483648 + f j % 65536 / 8 * 8 = spotV (f j) := rfl
      have hsb : 2147483648 ≤ spotV (f j) ∧ spotV (f j) ≤ 2147549183 := by unfold spotV; omega
      rw [Nat.add_zero] at u0
      rw [← fld1] at u1
      have HST := Lib.hid (show fillV f h (j + 1) z = putV (fillV f h j z) (spotV (f j)) 8 (h j) from rfl)
      have hadl : ad.block < wr.heap.size := by have := hT.arg.lt; have := hT.ord; have := hT.gr.size; have := hT.sz; omega
      generalize fillV f h j z = cs at *
      unfold B64 at v1
      go_wp2_with fail
      refine (Put_c _ _ cs _ 8 _ _ hT.one (by omega) (by omega) V1.out).mono ?_
      rintro e w1 ⟨rfl, hA, hG⟩
      have hT1 := hT.put1 hA hG
      clear hT hA hG hc1 u0 u1 hlt hadl
      obtain ⟨ad2, e2, hadb2, u0, _, u1, _⟩ := hT1.els j (by omega)
      injection e2 with e2
      subst e2
      rw [Nat.add_zero] at u0
      rw [← fld1] at u1
      have hc1 : w1.cell? ⟨b, 1, none⟩ = some (.slice (some ad) n k) := hT1.arg.cell 1
      have hlt := hT1.arg.lt
      have hadl : ad.block < w1.heap.size := by have := hT1.arg.lt; have := hT1.ord; have := hT1.gr.size; have := hT1.sz; omega
      go_wp2_with fail
      refine (rPut_c _ _ cs _ 8 _ _ hT1.two (by omega) (by omega) V1.out).mono ?_
      rintro e w2 ⟨rfl, hA, hG⟩
      have hT2 := hT1.put2 hA hG
      clear hT1 hA hG hc1 u0 u1 hlt hadl
      go_wp2_with fail
      go_roundw
      case rel => exact ⟨j + 1, by omega, by go_num, by rw [HST.out]; exact hT2⟩
      case measure => simp [intOf]; omega
    · obtain rfl : j = N := by omega
      have HT := Lib.hid hT
      clear hT
      have hstop : (decide (j < n) && decide (j < 64)) = false := by
        have := HNc.out
        rcases this with rfl | rfl
        · simp
        · simp
      have hz : wr.heap.size = wr.heap.size := rfl
      have hsr : Row (wr.alloc (.cells #[.pointer (some ⟨b + 2 + 1, 0, none⟩), .pointer none] 81)) wr.heap.size 81 [.pointer (some ⟨b + 2 + 1, 0, none⟩), .pointer none] := Row.fresh wr 81 [.pointer (some ⟨b + 2 + 1, 0, none⟩), .pointer none]
      have hg := gr_alloc (gr_refl wr none) (.cells #[.pointer (some ⟨b + 2 + 1, 0, none⟩), .pointer none] 81)
      have HU := Lib.hid (And.intro hsr (And.intro hg (show g' + 1 < wr.heap.size from HT.out.two.ptr.lt)))
      clear hsr hg hz
      have hend : j = n ∨ (j < n ∧ j = 64) := by have := HNc.out; omega
      rcases hend with hn1 | ⟨hn1, h64⟩
      case' inl => go_upto_region 11 with (fail)
      case' inr => go_upto_region 11 with (fail)
      all_goals
        clear hc1 hlt
        obtain ⟨hsr, hg, hgs⟩ := HU.out
        clear HU
        generalize wr.alloc (.cells #[.pointer (some ⟨b + 2 + 1, 0, none⟩), .pointer none] 81) = U at *
        generalize wr.heap.size = s at *
        have hres := HT.out.res.grown hg (by simp)
        have HR := Lib.hid (And.intro hsr (And.intro hres (And.intro hg hgs)))
        have s0 : U.cell? ⟨s, 0, none⟩ = some (.pointer (some ⟨b + 2 + 1, 0, none⟩)) := hsr.cell 0
        have s1 : U.cell? ⟨s, 1, none⟩ = some (.pointer none) := hsr.cell 1
        have r0 : U.cell? ⟨b + 1, 0, none⟩ = some (.pointer none) := hres.cell 0
        have r1 : U.cell? ⟨b + 1, 1, none⟩ = some (.pointer none) := hres.cell 1
        have rf := hres.free
        have rl := hres.lt
        have sl := hsr.lt
        have hbs : b + 1 ≠ s := by have := HT.out.ord; omega
        clear hsr hres hg hgs
        go_upto_region 13 with (fail)
      -- REGION 13
      all_goals
        have hsb : s ≠ b + 1 := fun e => hbs e.symm
        have HSR0 := HR.out.1
        refine wp_region_held_drew (S := fun w' => Row w' s 81 [.pointer (some ⟨b + 2 + 1, 0, none⟩), .pointer none]) (by kernel_rfl) ?_ (fun hHeld => ?_)
        · exact Row.grown HSR0 (gr_drew (gr_refl _ none)) (by simp)
        refine wpAnyH_take (i := 0) (oi := { dst := some 79, op := Op.load 81 (Operand.tmp 14), type := 81, pos := "law.go:53", after := #[], guard := none }) (v := ?_) rfl (by kernel_rfl) (by kernel_rfl) (by kernel_rfl) (fun _ _ _ h => h) (Or.inl ⟨by rfl, ?_⟩) (by assumption) ?_
        rotate_left
        · (intro w hSw; (try dsimp only at hSw); (have HSR := hSw); obtain ⟨k0, k1⟩ := cells2 HSR; go_simp; try with_reducible rfl)
        try simp only [Act.put, List.setIfInBounds_toArray, List.set_cons_zero, List.set_cons_succ]
        refine wpAnyH_take (i := 1) (oi := { dst := some 80, op := Op.move (Operand.tmp 10), type := 42, pos := "law.go:53", after := #[{ on := 19, ground := Ground.gcOnly Departure.lateStores }], guard := none }) (v := ?_) rfl (by kernel_rfl) (by kernel_rfl) (by kernel_rfl) (fun _ _ _ h => h) (Or.inl ⟨by rfl, ?_⟩) (by assumption) ?_
        rotate_left
        · (intro w hSw; (try dsimp only at hSw); go_simp; try with_reducible rfl)
        try simp only [Act.put, List.setIfInBounds_toArray, List.set_cons_zero, List.set_cons_succ]
        refine wpAnyH_take (i := 2) (oi := { dst := some 81, op := Op.move (Operand.tmp 1), type := 3, pos := "law.go:53", after := #[], guard := none }) (v := ?_) rfl (by kernel_rfl) (by kernel_rfl) (by kernel_rfl) (fun _ _ _ h => h) (Or.inl ⟨by rfl, ?_⟩) (by assumption) ?_
        rotate_left
        · (intro w hSw; (try dsimp only at hSw); go_simp; try with_reducible rfl)
        try simp only [Act.put, List.setIfInBounds_toArray, List.set_cons_zero, List.set_cons_succ]
        refine wpAnyH_take (i := 4) (oi := { dst := some 83, op := Op.move (Operand.tmp 1), type := 3, pos := "law.go:53", after := #[{ on := 19, ground := Ground.gcOnly Departure.lateStores }], guard := none }) (v := ?_) rfl (by kernel_rfl) (by kernel_rfl) (by kernel_rfl) (fun _ _ _ h => h) (Or.inl ⟨by rfl, ?_⟩) (by assumption) ?_
        rotate_left
        · (intro w hSw; (try dsimp only at hSw); go_simp; try with_reducible rfl)
        try simp only [Act.put, List.setIfInBounds_toArray, List.set_cons_zero, List.set_cons_succ]
        refine wpAnyH_take (i := 5) (oi := { dst := some 84, op := Op.binOp BinOp.geq 3 (Operand.tmp 83) (Operand.const (Value.int IntKind.i64 0)) 3, type := 4, pos := "law.go:53", after := #[{ on := 4, ground := Ground.data }, { on := 19, ground := Ground.gcOnly Departure.lateStores }], guard := none }) (v := ?_) rfl (by kernel_rfl) (by kernel_rfl) (by kernel_rfl) (fun _ _ _ h => h) (Or.inl ⟨by rfl, ?_⟩) (by assumption) ?_
        rotate_left
        · (intro w hSw; (try dsimp only at hSw); go_simp; try with_reducible rfl)
        try simp only [Act.put, List.setIfInBounds_toArray, List.set_cons_zero, List.set_cons_succ]
        refine wpAnyH_take (i := 8) (oi := { dst := some 87, op := Op.move (Operand.tmp 8), type := 41, pos := "law.go:53", after := #[], guard := none }) (v := ?_) rfl (by kernel_rfl) (by kernel_rfl) (by kernel_rfl) (fun _ _ _ h => h) (Or.inl ⟨by rfl, ?_⟩) (by assumption) ?_
        rotate_left
        · (intro w hSw; (try dsimp only at hSw); go_simp; try with_reducible rfl)
        try simp only [Act.put, List.setIfInBounds_toArray, List.set_cons_zero, List.set_cons_succ]
        refine wpAnyH_take (i := 9) (oi := { dst := some 88, op := Op.binOp BinOp.neq 41 (Operand.tmp 87) (Operand.const (Value.pointer none)) 41, type := 4, pos := "law.go:53", after := #[{ on := 8, ground := Ground.data }], guard := none }) (v := ?_) rfl (by kernel_rfl) (by kernel_rfl) (by kernel_rfl) (fun _ _ _ h => h) (Or.inl ⟨by rfl, ?_⟩) (by assumption) ?_
        rotate_left
        · (intro w hSw; (try dsimp only at hSw); go_simp; try with_reducible rfl)
        try simp only [Act.put, List.setIfInBounds_toArray, List.set_cons_zero, List.set_cons_succ]
        refine wpAnyH_ready (rs := [3]) (by kernel_rfl) (by simp) ?_
        refine (AllReadyH.cons (o := { dst := some 82, op := Op.call { callee := Callee.value (Operand.func 25), args := #[Operand.tmp 81], argTypes := #[3] }, type := 67, pos := "law.go:53", after := #[{ on := 2, ground := Ground.data }], guard := none }) rfl (fun K hK => ?_) AllReadyH.nil)
        go_simp
        refine (RN.out _).mono ?_
        rintro e w3 ⟨rfl, hR3, hG3⟩
        have hG4 := gr_trans (gr_drew (gr_refl U none)) hG3
        have y0 := (HR.out.2.1.grown hG4 (by simp)).cell 0
        have y1 := (HR.out.2.1.grown hG4 (by simp)).cell 1
        have yf := (HR.out.2.1.grown hG4 (by simp)).free
        have yl := (HR.out.2.1.grown hG4 (by simp)).lt
        refine hK.out _ _ ?_ (fun hHeld => ?_)
        · exact Row.grown hHeld hG3 (by simp)
        clear hK K
        try simp only [Act.put, List.setIfInBounds_toArray, List.set_cons_zero, List.set_cons_succ]
        refine wpAnyH_take (i := 10) (oi := { dst := some 89, op := Op.move (Operand.tmp 88), type := 4, pos := "law.go:53", after := #[{ on := 9, ground := Ground.data }, { on := 3, ground := Ground.chain }], guard := none }) (v := ?_) rfl (by kernel_rfl) (by kernel_rfl) (by kernel_rfl) (fun _ _ _ h => h) (Or.inl ⟨by rfl, ?_⟩) (by assumption) ?_
        rotate_left
        · (intro w hSw; (try dsimp only at hSw); go_simp; try with_reducible rfl)
        try simp only [Act.put, List.setIfInBounds_toArray, List.set_cons_zero, List.set_cons_succ]
        refine wpAnyH_take (i := 6) (oi := { dst := some 85, op := Op.build 101 #[(0, Operand.tmp 80), (1, Operand.tmp 82), (2, Operand.tmp 84)], type := 101, pos := "law.go:53", after := #[{ on := 1, ground := Ground.data }, { on := 3, ground := Ground.data }, { on := 5, ground := Ground.data }, { on := 19, ground := Ground.gcOnly Departure.lateStores }], guard := none }) (v := ?_) rfl (by kernel_rfl) (by kernel_rfl) (by kernel_rfl) (fun _ _ _ h => h) (Or.inl ⟨by rfl, ?_⟩) (by assumption) ?_
        rotate_left
        · (intro w hSw; (try dsimp only at hSw); go_simp; try with_reducible rfl)
        try simp only [Act.put, List.setIfInBounds_toArray, List.set_cons_zero, List.set_cons_succ]
        refine wpAnyH_take (i := 11) (oi := { dst := some 90, op := Op.move (Operand.tmp 1), type := 3, pos := "law.go:53", after := #[{ on := 10, ground := Ground.guard }], guard := some (10, true) }) (v := ?_) rfl (by kernel_rfl) (by kernel_rfl) (by kernel_rfl) (fun _ _ _ h => h) (Or.inl ⟨by rfl, ?_⟩) (by assumption) ?_
        rotate_left
        · (intro w hSw; (try dsimp only at hSw); go_simp; try with_reducible rfl)
        try simp only [Act.put, List.setIfInBounds_toArray, List.set_cons_zero, List.set_cons_succ]
        refine wpAnyH_take (i := 12) (oi := { dst := some 91, op := Op.binOp BinOp.lss 3 (Operand.tmp 90) (Operand.const (Value.int IntKind.i64 0)) 3, type := 4, pos := "law.go:53", after := #[{ on := 11, ground := Ground.data }, { on := 10, ground := Ground.guard }], guard := some (10, true) }) (v := ?_) rfl (by kernel_rfl) (by kernel_rfl) (by kernel_rfl) (fun _ _ _ h => h) (Or.inl ⟨by rfl, ?_⟩) (by assumption) ?_
        rotate_left
        · (intro w hSw; (try dsimp only at hSw); go_simp; try with_reducible rfl)
        try simp only [Act.put, List.setIfInBounds_toArray, List.set_cons_zero, List.set_cons_succ]
        refine wpAnyH_take (i := 13) (oi := { dst := some 92, op := Op.move (Operand.tmp 91), type := 4, pos := "law.go:53", after := #[{ on := 12, ground := Ground.data }, { on := 10, ground := Ground.chain }, { on := 10, ground := Ground.guard }], guard := some (10, true) }) (v := ?_) rfl (by kernel_rfl) (by kernel_rfl) (by kernel_rfl) (fun _ _ _ h => h) (Or.inl ⟨by rfl, ?_⟩) (by assumption) ?_
        rotate_left
        · (intro w hSw; (try dsimp only at hSw); go_simp; try with_reducible rfl)
        try simp only [Act.put, List.setIfInBounds_toArray, List.set_cons_zero, List.set_cons_succ]
        refine wpAnyH_take (i := 14) (oi := { dst := some 93, op := Op.fieldAddr 81 (Operand.tmp 14) 1, type := 0, pos := "law.go:53", after := #[{ on := 13, ground := Ground.guard }, { on := 20, ground := Ground.gcOnly Departure.lateStores }], guard := some (13, false) }) (v := undef) rfl (by kernel_rfl) (by kernel_rfl) (by kernel_rfl) (fun _ _ _ h => h) (Or.inr ⟨by rfl, rfl⟩) (by assumption) ?_
        try simp only [Act.put, List.setIfInBounds_toArray, List.set_cons_zero, List.set_cons_succ]
        refine wpAnyH_take (i := 15) (oi := { dst := some 94, op := Op.load 45 (Operand.tmp 93), type := 45, pos := "law.go:53", after := #[{ on := 14, ground := Ground.data }, { on := 13, ground := Ground.guard }, { on := 20, ground := Ground.gcOnly Departure.lateStores }], guard := some (13, false) }) (v := undef) rfl (by kernel_rfl) (by kernel_rfl) (by kernel_rfl) (fun _ _ _ h => h) (Or.inr ⟨by rfl, rfl⟩) (by assumption) ?_
        try simp only [Act.put, List.setIfInBounds_toArray, List.set_cons_zero, List.set_cons_succ]
        refine wpAnyH_take (i := 16) (oi := { dst := some 95, op := Op.binOp BinOp.neq 45 (Operand.tmp 94) (Operand.const (Value.pointer none)) 45, type := 4, pos := "law.go:53", after := #[{ on := 15, ground := Ground.data }, { on := 13, ground := Ground.guard }, { on := 20, ground := Ground.gcOnly Departure.lateStores }], guard := some (13, false) }) (v := undef) rfl (by kernel_rfl) (by kernel_rfl) (by kernel_rfl) (fun _ _ _ h => h) (Or.inr ⟨by rfl, rfl⟩) (by assumption) ?_
        try simp only [Act.put, List.setIfInBounds_toArray, List.set_cons_zero, List.set_cons_succ]
        refine wpAnyH_take (i := 17) (oi := { dst := some 96, op := Op.pick (Operand.tmp 92) (Operand.const (Value.bool true)) (Operand.tmp 95), type := 4, pos := "law.go:53", after := #[{ on := 13, ground := Ground.data }, { on := 16, ground := Ground.data }, { on := 10, ground := Ground.guard }, { on := 20, ground := Ground.gcOnly Departure.lateStores }], guard := some (10, true) }) (v := ?_) rfl (by kernel_rfl) (by kernel_rfl) (by kernel_rfl) (fun _ _ _ h => h) (Or.inl ⟨by rfl, ?_⟩) (by assumption) ?_
        rotate_left
        · (intro w hSw; (try dsimp only at hSw); go_simp; try with_reducible rfl)
        try simp only [Act.put, List.setIfInBounds_toArray, List.set_cons_zero, List.set_cons_succ]
        refine wpAnyH_take (i := 18) (oi := { dst := some 97, op := Op.pick (Operand.tmp 89) (Operand.tmp 96) (Operand.const (Value.bool false)), type := 4, pos := "law.go:53", after := #[{ on := 10, ground := Ground.data }, { on := 17, ground := Ground.data }, { on := 20, ground := Ground.gcOnly Departure.lateStores }], guard := none }) (v := ?_) rfl (by kernel_rfl) (by kernel_rfl) (by kernel_rfl) (fun _ _ _ h => h) (Or.inl ⟨by rfl, ?_⟩) (by assumption) ?_
        rotate_left
        · (intro w hSw; (try dsimp only at hSw); go_simp; try with_reducible rfl)
        try simp only [Act.put, List.setIfInBounds_toArray, List.set_cons_zero, List.set_cons_succ]
        refine wpAnyH_ready (rs := [7, 19]) (by kernel_rfl) (by simp) ?_
        refine (AllReadyH.cons (o := { dst := some 86, op := Op.box 101 (Operand.tmp 85), type := 82, pos := "law.go:53", after := #[{ on := 6, ground := Ground.data }, { on := 19, ground := Ground.gcOnly Departure.lateStores }], guard := none }) rfl (fun K hK => ?_) (AllReadyH.cons (o := { dst := none, op := Op.store 81 (Operand.tmp 4) (Operand.tmp 79), type := 0, pos := "law.go:53", after := #[{ on := 0, ground := Ground.data }, { on := 13, ground := Ground.chain }, { on := 0, ground := Ground.phase }, { on := 1, ground := Ground.textOnly Departure.lateStores }, { on := 2, ground := Ground.textOnly Departure.lateStores }, { on := 3, ground := Ground.textOnly Departure.lateStoresUnsure }, { on := 4, ground := Ground.textOnly Departure.lateStores }, { on := 5, ground := Ground.textOnly Departure.lateStores }, { on := 6, ground := Ground.textOnly Departure.lateStores }, { on := 7, ground := Ground.textOnly Departure.lateStores }, { on := 8, ground := Ground.textOnly Departure.lateStores }, { on := 9, ground := Ground.textOnly Departure.lateStores }, { on := 10, ground := Ground.textOnly Departure.lateStores }, { on := 11, ground := Ground.textOnly Departure.lateStores }, { on := 12, ground := Ground.textOnly Departure.lateStores }, { on := 13, ground := Ground.textOnly Departure.lateStores }, { on := 14, ground := Ground.textOnly Departure.lateStores }, { on := 15, ground := Ground.textOnly Departure.lateStores }, { on := 16, ground := Ground.textOnly Departure.lateStores }, { on := 17, ground := Ground.textOnly Departure.lateStores }, { on := 18, ground := Ground.textOnly Departure.lateStores }], guard := none }) rfl (fun K hK => ?_) AllReadyH.nil))
        · skip
          have H0 := hHeld
          go_simp
          refine hK.out _ _ ?_ (fun hHeld => ?_)
          · exact Row.alloc hHeld _
          clear hK K
          try simp only [Act.put, List.setIfInBounds_toArray, List.set_cons_zero, List.set_cons_succ]
          refine wpAnyH_ready (rs := [19]) (by kernel_rfl) (by simp) ?_
          refine (AllReadyH.cons (o := { dst := none, op := Op.store 81 (Operand.tmp 4) (Operand.tmp 79), type := 0, pos := "law.go:53", after := #[{ on := 0, ground := Ground.data }, { on := 13, ground := Ground.chain }, { on := 0, ground := Ground.phase }, { on := 1, ground := Ground.textOnly Departure.lateStores }, { on := 2, ground := Ground.textOnly Departure.lateStores }, { on := 3, ground := Ground.textOnly Departure.lateStoresUnsure }, { on := 4, ground := Ground.textOnly Departure.lateStores }, { on := 5, ground := Ground.textOnly Departure.lateStores }, { on := 6, ground := Ground.textOnly Departure.lateStores }, { on := 7, ground := Ground.textOnly Departure.lateStores }, { on := 8, ground := Ground.textOnly Departure.lateStores }, { on := 9, ground := Ground.textOnly Departure.lateStores }, { on := 10, ground := Ground.textOnly Departure.lateStores }, { on := 11, ground := Ground.textOnly Departure.lateStores }, { on := 12, ground := Ground.textOnly Departure.lateStores }, { on := 13, ground := Ground.textOnly Departure.lateStores }, { on := 14, ground := Ground.textOnly Departure.lateStores }, { on := 15, ground := Ground.textOnly Departure.lateStores }, { on := 16, ground := Ground.textOnly Departure.lateStores }, { on := 17, ground := Ground.textOnly Departure.lateStores }, { on := 18, ground := Ground.textOnly Departure.lateStores }], guard := none }) rfl (fun K hK => ?_) AllReadyH.nil)
          have H3 := hHeld
          go_simp
          refine hK.out _ _ ?_ (fun hHeld => ?_)
          · first | exact Row.other (a := ⟨b + 1, 1, none⟩) (Row.other (a := ⟨b + 1, 0, none⟩) hHeld hsb _) hsb _ | exact Row.alloc (Row.other (a := ⟨b + 1, 1, none⟩) (Row.other (a := ⟨b + 1, 0, none⟩) H0 hsb _) hsb _) _
          clear hK K
          try simp only [Act.put, List.setIfInBounds_toArray, List.set_cons_zero, List.set_cons_succ]
          refine wpAnyH_take (i := 20) (oi := { dst := some 5, op := Op.assign (Operand.tmp 86), type := 82, pos := "law.go:53", after := #[{ on := 7, ground := Ground.data }, { on := 19, ground := Ground.chain }, { on := 0, ground := Ground.phase }, { on := 1, ground := Ground.phase }, { on := 2, ground := Ground.phase }, { on := 3, ground := Ground.phase }, { on := 4, ground := Ground.phase }, { on := 5, ground := Ground.phase }, { on := 6, ground := Ground.phase }, { on := 7, ground := Ground.phase }, { on := 8, ground := Ground.textOnly Departure.lateStores }, { on := 9, ground := Ground.textOnly Departure.lateStores }, { on := 10, ground := Ground.textOnly Departure.lateStores }, { on := 11, ground := Ground.textOnly Departure.lateStores }, { on := 12, ground := Ground.textOnly Departure.lateStores }, { on := 13, ground := Ground.textOnly Departure.lateStores }, { on := 14, ground := Ground.textOnly Departure.lateStores }, { on := 15, ground := Ground.textOnly Departure.lateStores }, { on := 16, ground := Ground.textOnly Departure.lateStores }, { on := 17, ground := Ground.textOnly Departure.lateStores }, { on := 18, ground := Ground.textOnly Departure.lateStores }, { on := 19, ground := Ground.phase }], guard := none }) (v := ?_) rfl (by kernel_rfl) (by kernel_rfl) (by kernel_rfl) (fun _ _ _ h => h) (Or.inl ⟨by rfl, ?_⟩) (by assumption) ?_
          rotate_left
          · (intro w hSw; (try dsimp only at hSw); go_simp; try with_reducible rfl)
          try simp only [Act.put, List.setIfInBounds_toArray, List.set_cons_zero, List.set_cons_succ]
          refine wpAnyH_take (i := 21) (oi := { dst := some 6, op := Op.assign (Operand.tmp 97), type := 4, pos := "law.go:53", after := #[{ on := 18, ground := Ground.data }, { on := 20, ground := Ground.chain }, { on := 0, ground := Ground.phase }, { on := 1, ground := Ground.phase }, { on := 2, ground := Ground.phase }, { on := 3, ground := Ground.phase }, { on := 4, ground := Ground.phase }, { on := 5, ground := Ground.phase }, { on := 6, ground := Ground.phase }, { on := 7, ground := Ground.phase }, { on := 8, ground := Ground.phase }, { on := 9, ground := Ground.phase }, { on := 10, ground := Ground.phase }, { on := 11, ground := Ground.phase }, { on := 12, ground := Ground.phase }, { on := 13, ground := Ground.phase }, { on := 14, ground := Ground.phase }, { on := 15, ground := Ground.phase }, { on := 16, ground := Ground.phase }, { on := 17, ground := Ground.phase }, { on := 18, ground := Ground.phase }, { on := 19, ground := Ground.phase }, { on := 20, ground := Ground.phase }], guard := none }) (v := ?_) rfl (by kernel_rfl) (by kernel_rfl) (by kernel_rfl) (fun _ _ _ h => h) (Or.inl ⟨by rfl, ?_⟩) (by assumption) ?_
          rotate_left
          · (intro w hSw; (try dsimp only at hSw); go_simp; try with_reducible rfl)
          try simp only [Act.put, List.setIfInBounds_toArray, List.set_cons_zero, List.set_cons_succ]
          refine wpAnyH_done (by kernel_rfl) ?_ _
          have FF := Lib.hid (fin_S HT.out HR.out.2.2.1 hG4 hR3 (.pointer (some ⟨b + 2 + 1, 0, none⟩)) (.pointer none) (.pointer (some ⟨g' + 1, 0, none⟩)) (.pointer (some ⟨U.heap.size, 0, none⟩)) (.bool false))
          have ORD := Lib.hid HT.out
          go_wp2_with fail
          refine ret_S2 rfl rfl rfl rfl rfl FF.out.1 ?_
          have o := ORD.out.ord
          have sz := ORD.out.sz
          have z1 := HR.out.2.2.1.size
          have z2 := HT.out.gr.size
          exact ⟨_, _, _, _, _, _, rfl, FF.out.2.1, by omega, FF.out.2.2.1, by omega, FF.out.2.2.2.1, FF.out.2.2.2.2.1, FF.out.2.2.2.2.2.1, by omega, by omega⟩
        · skip
          have H3 := hHeld
          go_simp
          refine hK.out _ _ ?_ (fun hHeld => ?_)
          · first | exact Row.other (a := ⟨b + 1, 1, none⟩) (Row.other (a := ⟨b + 1, 0, none⟩) hHeld hsb _) hsb _ | exact Row.alloc (Row.other (a := ⟨b + 1, 1, none⟩) (Row.other (a := ⟨b + 1, 0, none⟩) H0 hsb _) hsb _) _
          clear hK K
          try simp only [Act.put, List.setIfInBounds_toArray, List.set_cons_zero, List.set_cons_succ]
          refine wpAnyH_ready (rs := [7]) (by kernel_rfl) (by simp) ?_
          refine (AllReadyH.cons (o := { dst := some 86, op := Op.box 101 (Operand.tmp 85), type := 82, pos := "law.go:53", after := #[{ on := 6, ground := Ground.data }, { on := 19, ground := Ground.gcOnly Departure.lateStores }], guard := none }) rfl (fun K hK => ?_) AllReadyH.nil)
          have H0 := hHeld
          go_simp
          refine hK.out _ _ ?_ (fun hHeld => ?_)
          · exact Row.alloc hHeld _
          clear hK K
          try simp only [Act.put, List.setIfInBounds_toArray, List.set_cons_zero, List.set_cons_succ]
          refine wpAnyH_take (i := 20) (oi := { dst := some 5, op := Op.assign (Operand.tmp 86), type := 82, pos := "law.go:53", after := #[{ on := 7, ground := Ground.data }, { on := 19, ground := Ground.chain }, { on := 0, ground := Ground.phase }, { on := 1, ground := Ground.phase }, { on := 2, ground := Ground.phase }, { on := 3, ground := Ground.phase }, { on := 4, ground := Ground.phase }, { on := 5, ground := Ground.phase }, { on := 6, ground := Ground.phase }, { on := 7, ground := Ground.phase }, { on := 8, ground := Ground.textOnly Departure.lateStores }, { on := 9, ground := Ground.textOnly Departure.lateStores }, { on := 10, ground := Ground.textOnly Departure.lateStores }, { on := 11, ground := Ground.textOnly Departure.lateStores }, { on := 12, ground := Ground.textOnly Departure.lateStores }, { on := 13, ground := Ground.textOnly Departure.lateStores }, { on := 14, ground := Ground.textOnly Departure.lateStores }, { on := 15, ground := Ground.textOnly Departure.lateStores }, { on := 16, ground := Ground.textOnly Departure.lateStores }, { on := 17, ground := Ground.textOnly Departure.lateStores }, { on := 18, ground := Ground.textOnly Departure.lateStores }, { on := 19, ground := Ground.phase }], guard := none }) (v := ?_) rfl (by kernel_rfl) (by kernel_rfl) (by kernel_rfl) (fun _ _ _ h => h) (Or.inl ⟨by rfl, ?_⟩) (by assumption) ?_
          rotate_left
          · (intro w hSw; (try dsimp only at hSw); go_simp; try with_reducible rfl)
          try simp only [Act.put, List.setIfInBounds_toArray, List.set_cons_zero, List.set_cons_succ]
          refine wpAnyH_take (i := 21) (oi := { dst := some 6, op := Op.assign (Operand.tmp 97), type := 4, pos := "law.go:53", after := #[{ on := 18, ground := Ground.data }, { on := 20, ground := Ground.chain }, { on := 0, ground := Ground.phase }, { on := 1, ground := Ground.phase }, { on := 2, ground := Ground.phase }, { on := 3, ground := Ground.phase }, { on := 4, ground := Ground.phase }, { on := 5, ground := Ground.phase }, { on := 6, ground := Ground.phase }, { on := 7, ground := Ground.phase }, { on := 8, ground := Ground.phase }, { on := 9, ground := Ground.phase }, { on := 10, ground := Ground.phase }, { on := 11, ground := Ground.phase }, { on := 12, ground := Ground.phase }, { on := 13, ground := Ground.phase }, { on := 14, ground := Ground.phase }, { on := 15, ground := Ground.phase }, { on := 16, ground := Ground.phase }, { on := 17, ground := Ground.phase }, { on := 18, ground := Ground.phase }, { on := 19, ground := Ground.phase }, { on := 20, ground := Ground.phase }], guard := none }) (v := ?_) rfl (by kernel_rfl) (by kernel_rfl) (by kernel_rfl) (fun _ _ _ h => h) (Or.inl ⟨by rfl, ?_⟩) (by assumption) ?_
          rotate_left
          · (intro w hSw; (try dsimp only at hSw); go_simp; try with_reducible rfl)
          try simp only [Act.put, List.setIfInBounds_toArray, List.set_cons_zero, List.set_cons_succ]
          refine wpAnyH_done (by kernel_rfl) ?_ _
          have FF := Lib.hid (fin_S HT.out HR.out.2.2.1 hG4 hR3 (.pointer (some ⟨b + 2 + 1, 0, none⟩)) (.pointer none) (.pointer (some ⟨g' + 1, 0, none⟩)) (.pointer (some ⟨U.heap.size, 0, none⟩)) (.bool false))
          have ORD := Lib.hid HT.out
          go_wp2_with fail
          refine ret_S2 rfl rfl rfl rfl rfl FF.out.1 ?_
          have o := ORD.out.ord
          have sz := ORD.out.sz
          have z1 := HR.out.2.2.1.size
          have z2 := HT.out.gr.size
          exact ⟨_, _, _, _, _, _, rfl, FF.out.2.1, by omega, FF.out.2.2.1, by omega, FF.out.2.2.2.1, FF.out.2.2.2.2.1, FF.out.2.2.2.2.2.1, by omega, by omega⟩
end Go.Proofs.Ytkfmcbhoendocaa
end

section
namespace Go.Proofs.Ytkfmcbhoendocaa
open Go Go.RowKit W M D A C P K
set_option linter.unusedVariables false
set_option linter.unusedSimpArgs false

/-- A space with what keeps leaves, two times. -/
def BothT (w : World) (bs : List Int) (most : Int) (e : Ending) (w' : World) : Prop :=
  ∃ pm gm p' g' ys tr tl, e = .returned (.tuple #[vS pm (some tl), .pointer (some ⟨ys, 0, none⟩), .bool true]) ∧ Spc w' w.heap.size pm gm bs (some tl) (T.mostV most) 0 [] ∧ QAt w' p' g' bs ∧ g' ≠ gm ∧
    Row w' ys 101 [.pointer (some ⟨p', 0, none⟩), .pointer (some ⟨tr, 0, none⟩), .bool true] ∧ w.grownBy w' none ∧ w.heap.size ≤ g' ∧ Row w' tr 73 [.int .i64 (T.mostV most), .slice none 0 0, .int .u64 0] ∧ w.heap.size ≤ tr

set_option maxRecDepth 100000 in
set_option maxHeartbeats 4000000 in
theorem bothT_c (most : Int) (hm : I64 most) (hpos : 0 ≤ most) (a : Int) (ha : 0 ≤ a ∧ a ≤ 255) (A : Option Addr) (n k : Nat) (hnk : n ≤ k) (hk : k ≤ 9223372036854775807) (f h : Nat → Int) (w : World) (hE : Elems w w.heap.size A n f h) :
    Calls Try.prog 34 #[.agg #[.int .u8 a, .slice A n k], .int .i64 most] w (BothT w (fillV f h (min n 64) (List.replicate ((1 + a % 16).toNat * 4096) 0)) most) := by
  obtain ⟨q, hq1, hq4, hqe⟩ : ∃ q : Nat, 1 ≤ q ∧ q ≤ 16 ∧ (1 : Int) + a % 16 = q := ⟨(1 + a % 16).toNat, by omega, by omega, by omega⟩
  have hand := and_15 a ha
  rw [hqe, Int.toNat_natCast]
  obtain ⟨N, hN⟩ : ∃ N, N = min n 64 := ⟨_, rfl⟩
  rw [← hN]
  have hNa : N ≤ n := by omega
  have hNb : N ≤ 64 := by omega
  have HNc := Lib.hid (show N = n ∨ N = 64 by omega)
  clear hN
  obtain ⟨z, hz⟩ : ∃ z, z = List.replicate (q * 4096) (0 : Int) := ⟨_, rfl⟩
  rw [← hz]
  have HZ := Lib.hid hz
  have RN := Lib.hid (fun W => rNew12_c most hm W)
  obtain ⟨W0, hW0⟩ : ∃ W0, W0 = (w.alloc (.cells #[.int .u8 a, .slice A n k] 78)).alloc (.cells #[.pointer none, .pointer none] 81) := ⟨_, rfl⟩
  have hs1 : (w.alloc (.cells #[.int .u8 a, .slice A n k] 78)).heap.size = w.heap.size + 1 := Array.size_push ..
  have hs0 : W0.heap.size = w.heap.size + 2 := by rw [hW0]; exact (Array.size_push ..).trans (by rw [hs1])
  have hr0 : Row W0 w.heap.size 78 [.int .u8 a, .slice A n k] := by rw [hW0]; exact (Row.fresh w 78 [.int .u8 a, .slice A n k]).alloc _
  have hr1 : Row W0 (w.heap.size + 1) 81 [.pointer none, .pointer none] := by rw [hW0, ← hs1]; exact Row.fresh _ 81 [.pointer none, .pointer none]
  have hg0 : w.grownBy W0 none := by rw [hW0]; exact gr_alloc (gr_alloc (gr_refl w none) _) _
  have HW := Lib.hid (And.intro hs0 (And.intro hr0 (And.intro hr1 (And.intro hg0 hE))))
  clear hE hz hs1 hs0 hr0 hr1 hg0
  have hge : decide (most < 0) = false := by simp; omega
  have NW := Lib.hid (fun W => TNew_c most hm W)
  unfold I64 at hm
  go_enter Try.func34, Try.ntmps34
  go_upto_region 1 with (fail)
  rw [← hW0]
  clear hW0
  obtain ⟨hs0, hr0, hr1, hg0, hE⟩ := HW.out
  have m0 : W0.cell? ⟨w.heap.size, 0, none⟩ = some (.int .u8 a) := hr0.cell 0
  have m1 : W0.cell? ⟨w.heap.size, 1, none⟩ = some (.slice A n k) := hr0.cell 1
  have lt0 := hr0.lt
  clear hs0 hr0 hr1 hg0 hE
  go_wp2_with fail
  refine (New_yes q (by omega) (by omega) _).mono ?_
  rintro e wa ⟨rfl, hA, hGa⟩
  rw [← HZ.out] at hA
  clear m0 m1 lt0
  go_wp2_with fail
  refine (rNew_yes q (by omega) (by omega) _).mono ?_
  rintro e wb ⟨rfl, hB, hGb⟩
  rw [← HZ.out] at hB
  obtain ⟨hs0, hr0, hr1, hg0, hE⟩ := HW.out
  rw [hs0] at hA
  have hza := hA.ptr.lt
  have hT : TwinS w w.heap.size w.heap.size (w.heap.size + 2 + 1) (w.heap.size + 2) (wa.heap.size + 1) wa.heap.size a A n k f h z z wb :=
    ⟨(hr0.grown hGa (by simp)).grown hGb (by simp), (hr1.grown hGa (by simp)).grown hGb (by simp), hA.kept hGb, hB, hE.turn fun ad had => cell_grown (gr_trans (gr_trans hg0 hGa) hGb) had (by simp), gr_trans (gr_trans hg0 hGa) hGb, rfl, by omega⟩
  rw [hs0]
  clear hA hB hza hGa hGb HW hs0 hr0 hr1 hg0 hE
  generalize w.heap.size = b at *
  generalize wa.heap.size = g' at *
  go_wp2_with fail
  go_loopw [12] (fun i wr => ∃ j : Nat, j ≤ N ∧ i = .int .i64 j ∧ TwinS w b b (b + 2 + 1) (b + 2) (g' + 1) g' a A n k f h (fillV f h j z) (fillV f h j z) wr) (fun i _ => N - (intOf i).toNat)
  case atStart => exact ⟨0, Nat.zero_le _, rfl, hT⟩
  case round =>
    clear hT
    obtain ⟨j, hj, rfl, hT⟩ := hrel
    have hc1 : wr.cell? ⟨b, 1, none⟩ = some (.slice A n k) := hT.arg.cell 1
    have hlt := hT.arg.lt
    by_cases hjN : j < N
    · obtain ⟨ad, rfl, hadb, u0, v0, u1, v1⟩ := hT.els j (by omega)
      have hjn : j < n := by omega
      have hj64 : j < 64 := by omega
      have V1 := Lib.hid v1
      have hx := and_8 (f j) v0
      have hspot : 2147483648 + f j % 65536 / 8 * 8 = spotV (f j) := rfl
      have hsb : 2147483648 ≤ spotV (f j) ∧ spotV (f j) ≤ 2147549183 := by unfold spotV; omega
      rw [Nat.add_zero] at u0
      rw [← fld1] at u1
      have HST := Lib.hid (show fillV f h (j + 1) z = putV (fillV f h j z) (spotV (f j)) 8 (h j) from rfl)
      have hadl : ad.block < wr.heap.size := by have := hT.arg.lt; have := hT.ord; have := hT.gr.size; have := hT.sz; omega
      generalize fillV f h j z = cs at *
      unfold B64 at v1
      go_wp2_with fail
      refine (Put_c _ _ cs _ 8 _ _ hT.one (by omega) (by omega) V1.out).mono ?_
      rintro e w1 ⟨rfl, hA, hG⟩
      have hT1 := hT.put1 hA hG
      clear hT hA hG hc1 u0 u1 hlt hadl
      obtain ⟨ad2, e2, hadb2, u0, _, u1, _⟩ := hT1.els j (by omega)
      injection e2 with e2
      subst e2
      rw [Nat.add_zero] at u0
      rw [← fld1] at u1
      have hc1 : w1.cell? ⟨b, 1, none⟩ = some (.slice (some ad) n k) := hT1.arg.cell 1
      have hlt := hT1.arg.lt
      have hadl : ad.block < w1.heap.size := by have := hT1.arg.lt; have := hT1.ord; have := hT1.gr.size; have := hT1.sz; omega
      go_wp2_with fail
      refine (rPut_c _ _ cs _ 8 _ _ hT1.two (by omega) (by omega) V1.out).mono ?_
      rintro e w2 ⟨rfl, hA, hG⟩
      have hT2 := hT1.put2 hA hG
      clear hT1 hA hG hc1 u0 u1 hlt hadl
      go_wp2_with fail
      go_roundw
      case rel => exact ⟨j + 1, by omega, by go_num, by rw [HST.out]; exact hT2⟩
      case measure => simp [intOf]; omega
    · obtain rfl : j = N := by omega
      have HT := Lib.hid hT
      clear hT
      have hstop : (decide (j < n) && decide (j < 64)) = false := by
        have := HNc.out
        rcases this with rfl | rfl
        · simp
        · simp
      have hz : wr.heap.size = wr.heap.size := rfl
      have hsr : Row (wr.alloc (.cells #[.pointer (some ⟨b + 2 + 1, 0, none⟩), .pointer none] 81)) wr.heap.size 81 [.pointer (some ⟨b + 2 + 1, 0, none⟩), .pointer none] := Row.fresh wr 81 [.pointer (some ⟨b + 2 + 1, 0, none⟩), .pointer none]
      have hg := gr_alloc (gr_refl wr none) (.cells #[.pointer (some ⟨b + 2 + 1, 0, none⟩), .pointer none] 81)
      have HU := Lib.hid (And.intro hsr (And.intro hg (show g' + 1 < wr.heap.size from HT.out.two.ptr.lt)))
      clear hsr hg hz
      have hend : j = n ∨ (j < n ∧ j = 64) := by have := HNc.out; omega
      rcases hend with hn1 | ⟨hn1, h64⟩
      case' inl => go_upto_region 11 with (fail)
      case' inr => go_upto_region 11 with (fail)
      all_goals
        clear hc1 hlt
        obtain ⟨hsr, hg, hgs⟩ := HU.out
        clear HU
        generalize wr.alloc (.cells #[.pointer (some ⟨b + 2 + 1, 0, none⟩), .pointer none] 81) = U0 at *
        obtain ⟨s, hs⟩ : ∃ s, s = wr.heap.size := ⟨_, rfl⟩
        rw [← hs] at hsr hgs ⊢
        have HSS := Lib.hid hs
        clear hs
        go_upto_region 12 with (fail)
        go_wp2_with fail
        refine (NW.out _).mono ?_
        rintro e w5 ⟨rfl, hH, hG5⟩
        have hr5 := hsr.grown hG5 (by simp)
        have hres5 := (HT.out.res.grown hg (by simp)).grown hG5 (by simp)
        have hw5 := gr_trans hg hG5
        have hsp5 : Spc w5 b (b + 2 + 1) (b + 2) (fillV f h j z) (some U0.heap.size) (T.mostV most) 0 [] := ⟨HT.out.one.kept hw5, by omega, ⟨_, held_less hH (by have := HT.out.gr.size; have := HT.out.sz; have := hg.size; omega)⟩⟩
        generalize U0.heap.size = tl at *
        have s0 : w5.cell? ⟨s, 0, none⟩ = some (.pointer (some ⟨b + 2 + 1, 0, none⟩)) := hr5.cell 0
        have s1 : w5.cell? ⟨s, 1, none⟩ = some (.pointer none) := hr5.cell 1
        have sf := hr5.free
        have sl := hr5.lt
        have hst := gr_set (i := 1) (gr_refl w5 (some s)) (.pointer (some ⟨tl, 0, none⟩))
        have hsp := hsp5.set hr5 (by decide) (by decide) (by decide) (by decide) hst
        have hsr2 := hr5.put 1 (.pointer (some ⟨tl, 0, none⟩))
        have hbs0 : b + 1 ≠ s := by have := HT.out.ord; omega
        have hres2 := hres5.grown hst (some_ne hbs0)
        have hg2 := gr_row (gr_trans (gr_none hw5 _) hst) (by have := HSS.out; omega)
        have HR0 := Lib.hid (And.intro hsr2 (And.intro hres2 (And.intro hg2 (And.intro hgs hsp))))
        clear hsr hg hH hG5 hr5 hres5 hw5 hsp5 hst hsp hsr2 hres2 hg2 hgs
        go_upto_region 13 with (fail)
        obtain ⟨hsr, hres, hg, hgs, hsp⟩ := HR0.out
        clear HR0 s0 s1 sf sl
        generalize w5.setCell ⟨s, 1, none⟩ (.pointer (some ⟨tl, 0, none⟩)) = U at *
        replace hsr : Row U s 81 [.pointer (some ⟨b + 2 + 1, 0, none⟩), .pointer (some ⟨tl, 0, none⟩)] := hsr
        have HR := Lib.hid (And.intro hsr (And.intro hres (And.intro hg hgs)))
        have HSP := Lib.hid hsp
        have s0 : U.cell? ⟨s, 0, none⟩ = some (.pointer (some ⟨b + 2 + 1, 0, none⟩)) := hsr.cell 0
        have s1 : U.cell? ⟨s, 1, none⟩ = some (.pointer (some ⟨tl, 0, none⟩)) := hsr.cell 1
        have r0 : U.cell? ⟨b + 1, 0, none⟩ = some (.pointer none) := hres.cell 0
        have r1 : U.cell? ⟨b + 1, 1, none⟩ = some (.pointer none) := hres.cell 1
        have rf := hres.free
        have rl := hres.lt
        have sl := hsr.lt
        have hbs : b + 1 ≠ s := hbs0
        clear hsr hres hg hgs hsp hbs0
      all_goals
        have hsb : s ≠ b + 1 := fun e => hbs e.symm
        have HSR0 := HR.out.1
        refine wp_region_held_drew (S := fun w' => Row w' s 81 [.pointer (some ⟨b + 2 + 1, 0, none⟩), .pointer (some ⟨tl, 0, none⟩)]) (by kernel_rfl) ?_ (fun hHeld => ?_)
        · exact Row.grown HSR0 (gr_drew (gr_refl _ none)) (by simp)
        refine wpAnyH_take (i := 0) (oi := { dst := some 79, op := Op.load 81 (Operand.tmp 14), type := 81, pos := "law.go:53", after := #[], guard := none }) (v := ?_) rfl (by kernel_rfl) (by kernel_rfl) (by kernel_rfl) (fun _ _ _ h => h) (Or.inl ⟨by rfl, ?_⟩) (by assumption) ?_
        rotate_left
        · (intro w hSw; (try dsimp only at hSw); (have HSR := hSw); obtain ⟨k0, k1⟩ := cells2 HSR; go_simp; try with_reducible rfl)
        try simp only [Act.put, List.setIfInBounds_toArray, List.set_cons_zero, List.set_cons_succ]
        refine wpAnyH_take (i := 1) (oi := { dst := some 80, op := Op.move (Operand.tmp 10), type := 42, pos := "law.go:53", after := #[{ on := 19, ground := Ground.gcOnly Departure.lateStores }], guard := none }) (v := ?_) rfl (by kernel_rfl) (by kernel_rfl) (by kernel_rfl) (fun _ _ _ h => h) (Or.inl ⟨by rfl, ?_⟩) (by assumption) ?_
        rotate_left
        · (intro w hSw; (try dsimp only at hSw); go_simp; try with_reducible rfl)
        try simp only [Act.put, List.setIfInBounds_toArray, List.set_cons_zero, List.set_cons_succ]
        refine wpAnyH_take (i := 2) (oi := { dst := some 81, op := Op.move (Operand.tmp 1), type := 3, pos := "law.go:53", after := #[], guard := none }) (v := ?_) rfl (by kernel_rfl) (by kernel_rfl) (by kernel_rfl) (fun _ _ _ h => h) (Or.inl ⟨by rfl, ?_⟩) (by assumption) ?_
        rotate_left
        · (intro w hSw; (try dsimp only at hSw); go_simp; try with_reducible rfl)
        try simp only [Act.put, List.setIfInBounds_toArray, List.set_cons_zero, List.set_cons_succ]
        refine wpAnyH_take (i := 4) (oi := { dst := some 83, op := Op.move (Operand.tmp 1), type := 3, pos := "law.go:53", after := #[{ on := 19, ground := Ground.gcOnly Departure.lateStores }], guard := none }) (v := ?_) rfl (by kernel_rfl) (by kernel_rfl) (by kernel_rfl) (fun _ _ _ h => h) (Or.inl ⟨by rfl, ?_⟩) (by assumption) ?_
        rotate_left
        · (intro w hSw; (try dsimp only at hSw); go_simp; try with_reducible rfl)
        try simp only [Act.put, List.setIfInBounds_toArray, List.set_cons_zero, List.set_cons_succ]
        refine wpAnyH_take (i := 5) (oi := { dst := some 84, op := Op.binOp BinOp.geq 3 (Operand.tmp 83) (Operand.const (Value.int IntKind.i64 0)) 3, type := 4, pos := "law.go:53", after := #[{ on := 4, ground := Ground.data }, { on := 19, ground := Ground.gcOnly Departure.lateStores }], guard := none }) (v := ?_) rfl (by kernel_rfl) (by kernel_rfl) (by kernel_rfl) (fun _ _ _ h => h) (Or.inl ⟨by rfl, ?_⟩) (by assumption) ?_
        rotate_left
        · (intro w hSw; (try dsimp only at hSw); go_simp; try with_reducible rfl)
        try simp only [Act.put, List.setIfInBounds_toArray, List.set_cons_zero, List.set_cons_succ]
        refine wpAnyH_take (i := 8) (oi := { dst := some 87, op := Op.move (Operand.tmp 8), type := 41, pos := "law.go:53", after := #[], guard := none }) (v := ?_) rfl (by kernel_rfl) (by kernel_rfl) (by kernel_rfl) (fun _ _ _ h => h) (Or.inl ⟨by rfl, ?_⟩) (by assumption) ?_
        rotate_left
        · (intro w hSw; (try dsimp only at hSw); go_simp; try with_reducible rfl)
        try simp only [Act.put, List.setIfInBounds_toArray, List.set_cons_zero, List.set_cons_succ]
        refine wpAnyH_take (i := 9) (oi := { dst := some 88, op := Op.binOp BinOp.neq 41 (Operand.tmp 87) (Operand.const (Value.pointer none)) 41, type := 4, pos := "law.go:53", after := #[{ on := 8, ground := Ground.data }], guard := none }) (v := ?_) rfl (by kernel_rfl) (by kernel_rfl) (by kernel_rfl) (fun _ _ _ h => h) (Or.inl ⟨by rfl, ?_⟩) (by assumption) ?_
        rotate_left
        · (intro w hSw; (try dsimp only at hSw); go_simp; try with_reducible rfl)
        try simp only [Act.put, List.setIfInBounds_toArray, List.set_cons_zero, List.set_cons_succ]
        refine wpAnyH_ready (rs := [3]) (by kernel_rfl) (by simp) ?_
        refine (AllReadyH.cons (o := { dst := some 82, op := Op.call { callee := Callee.value (Operand.func 25), args := #[Operand.tmp 81], argTypes := #[3] }, type := 67, pos := "law.go:53", after := #[{ on := 2, ground := Ground.data }], guard := none }) rfl (fun K hK => ?_) AllReadyH.nil)
        go_simp
        refine (RN.out _).mono ?_
        rintro e w3 ⟨rfl, hR3, hG3⟩
        have hG4 := gr_trans (gr_drew (gr_refl U none)) hG3
        have y0 := (HR.out.2.1.grown hG4 (by simp)).cell 0
        have y1 := (HR.out.2.1.grown hG4 (by simp)).cell 1
        have yf := (HR.out.2.1.grown hG4 (by simp)).free
        have yl := (HR.out.2.1.grown hG4 (by simp)).lt
        refine hK.out _ _ ?_ (fun hHeld => ?_)
        · exact Row.grown hHeld hG3 (by simp)
        clear hK K
        try simp only [Act.put, List.setIfInBounds_toArray, List.set_cons_zero, List.set_cons_succ]
        refine wpAnyH_take (i := 10) (oi := { dst := some 89, op := Op.move (Operand.tmp 88), type := 4, pos := "law.go:53", after := #[{ on := 9, ground := Ground.data }, { on := 3, ground := Ground.chain }], guard := none }) (v := ?_) rfl (by kernel_rfl) (by kernel_rfl) (by kernel_rfl) (fun _ _ _ h => h) (Or.inl ⟨by rfl, ?_⟩) (by assumption) ?_
        rotate_left
        · (intro w hSw; (try dsimp only at hSw); go_simp; try with_reducible rfl)
        try simp only [Act.put, List.setIfInBounds_toArray, List.set_cons_zero, List.set_cons_succ]
        refine wpAnyH_take (i := 6) (oi := { dst := some 85, op := Op.build 101 #[(0, Operand.tmp 80), (1, Operand.tmp 82), (2, Operand.tmp 84)], type := 101, pos := "law.go:53", after := #[{ on := 1, ground := Ground.data }, { on := 3, ground := Ground.data }, { on := 5, ground := Ground.data }, { on := 19, ground := Ground.gcOnly Departure.lateStores }], guard := none }) (v := ?_) rfl (by kernel_rfl) (by kernel_rfl) (by kernel_rfl) (fun _ _ _ h => h) (Or.inl ⟨by rfl, ?_⟩) (by assumption) ?_
        rotate_left
        · (intro w hSw; (try dsimp only at hSw); go_simp; try with_reducible rfl)
        try simp only [Act.put, List.setIfInBounds_toArray, List.set_cons_zero, List.set_cons_succ]
        refine wpAnyH_take (i := 11) (oi := { dst := some 90, op := Op.move (Operand.tmp 1), type := 3, pos := "law.go:53", after := #[{ on := 10, ground := Ground.guard }], guard := some (10, true) }) (v := ?_) rfl (by kernel_rfl) (by kernel_rfl) (by kernel_rfl) (fun _ _ _ h => h) (Or.inl ⟨by rfl, ?_⟩) (by assumption) ?_
        rotate_left
        · (intro w hSw; (try dsimp only at hSw); go_simp; try with_reducible rfl)
        try simp only [Act.put, List.setIfInBounds_toArray, List.set_cons_zero, List.set_cons_succ]
        refine wpAnyH_take (i := 12) (oi := { dst := some 91, op := Op.binOp BinOp.lss 3 (Operand.tmp 90) (Operand.const (Value.int IntKind.i64 0)) 3, type := 4, pos := "law.go:53", after := #[{ on := 11, ground := Ground.data }, { on := 10, ground := Ground.guard }], guard := some (10, true) }) (v := ?_) rfl (by kernel_rfl) (by kernel_rfl) (by kernel_rfl) (fun _ _ _ h => h) (Or.inl ⟨by rfl, ?_⟩) (by assumption) ?_
        rotate_left
        · (intro w hSw; (try dsimp only at hSw); go_simp; try with_reducible rfl)
        try simp only [Act.put, List.setIfInBounds_toArray, List.set_cons_zero, List.set_cons_succ]
        refine wpAnyH_take (i := 13) (oi := { dst := some 92, op := Op.move (Operand.tmp 91), type := 4, pos := "law.go:53", after := #[{ on := 12, ground := Ground.data }, { on := 10, ground := Ground.chain }, { on := 10, ground := Ground.guard }], guard := some (10, true) }) (v := ?_) rfl (by kernel_rfl) (by kernel_rfl) (by kernel_rfl) (fun _ _ _ h => h) (Or.inl ⟨by rfl, ?_⟩) (by assumption) ?_
        rotate_left
        · (intro w hSw; (try dsimp only at hSw); go_simp; try with_reducible rfl)
        try simp only [Act.put, List.setIfInBounds_toArray, List.set_cons_zero, List.set_cons_succ]
        refine wpAnyH_take (i := 14) (oi := { dst := some 93, op := Op.fieldAddr 81 (Operand.tmp 14) 1, type := 0, pos := "law.go:53", after := #[{ on := 13, ground := Ground.guard }, { on := 20, ground := Ground.gcOnly Departure.lateStores }], guard := some (13, false) }) (v := ?_) rfl (by kernel_rfl) (by kernel_rfl) (by kernel_rfl) (fun _ _ _ h => h) (Or.inl ⟨by rfl, ?_⟩) (by assumption) ?_
        rotate_left
        · (intro w hSw; (try dsimp only at hSw); go_simp; try with_reducible rfl)
        try simp only [Act.put, List.setIfInBounds_toArray, List.set_cons_zero, List.set_cons_succ]
        refine wpAnyH_take (i := 15) (oi := { dst := some 94, op := Op.load 45 (Operand.tmp 93), type := 45, pos := "law.go:53", after := #[{ on := 14, ground := Ground.data }, { on := 13, ground := Ground.guard }, { on := 20, ground := Ground.gcOnly Departure.lateStores }], guard := some (13, false) }) (v := ?_) rfl (by kernel_rfl) (by kernel_rfl) (by kernel_rfl) (fun _ _ _ h => h) (Or.inl ⟨by rfl, ?_⟩) (by assumption) ?_
        rotate_left
        · (intro w hSw; (try dsimp only at hSw); (have HSR := hSw); obtain ⟨k0, k1⟩ := cells2 HSR; go_simp; try with_reducible rfl)
        try simp only [Act.put, List.setIfInBounds_toArray, List.set_cons_zero, List.set_cons_succ]
        refine wpAnyH_take (i := 16) (oi := { dst := some 95, op := Op.binOp BinOp.neq 45 (Operand.tmp 94) (Operand.const (Value.pointer none)) 45, type := 4, pos := "law.go:53", after := #[{ on := 15, ground := Ground.data }, { on := 13, ground := Ground.guard }, { on := 20, ground := Ground.gcOnly Departure.lateStores }], guard := some (13, false) }) (v := ?_) rfl (by kernel_rfl) (by kernel_rfl) (by kernel_rfl) (fun _ _ _ h => h) (Or.inl ⟨by rfl, ?_⟩) (by assumption) ?_
        rotate_left
        · (intro w hSw; (try dsimp only at hSw); go_simp; try with_reducible rfl)
        try simp only [Act.put, List.setIfInBounds_toArray, List.set_cons_zero, List.set_cons_succ]
        refine wpAnyH_take (i := 17) (oi := { dst := some 96, op := Op.pick (Operand.tmp 92) (Operand.const (Value.bool true)) (Operand.tmp 95), type := 4, pos := "law.go:53", after := #[{ on := 13, ground := Ground.data }, { on := 16, ground := Ground.data }, { on := 10, ground := Ground.guard }, { on := 20, ground := Ground.gcOnly Departure.lateStores }], guard := some (10, true) }) (v := ?_) rfl (by kernel_rfl) (by kernel_rfl) (by kernel_rfl) (fun _ _ _ h => h) (Or.inl ⟨by rfl, ?_⟩) (by assumption) ?_
        rotate_left
        · (intro w hSw; (try dsimp only at hSw); go_simp; try with_reducible rfl)
        try simp only [Act.put, List.setIfInBounds_toArray, List.set_cons_zero, List.set_cons_succ]
        refine wpAnyH_take (i := 18) (oi := { dst := some 97, op := Op.pick (Operand.tmp 89) (Operand.tmp 96) (Operand.const (Value.bool false)), type := 4, pos := "law.go:53", after := #[{ on := 10, ground := Ground.data }, { on := 17, ground := Ground.data }, { on := 20, ground := Ground.gcOnly Departure.lateStores }], guard := none }) (v := ?_) rfl (by kernel_rfl) (by kernel_rfl) (by kernel_rfl) (fun _ _ _ h => h) (Or.inl ⟨by rfl, ?_⟩) (by assumption) ?_
        rotate_left
        · (intro w hSw; (try dsimp only at hSw); go_simp; try with_reducible rfl)
        try simp only [Act.put, List.setIfInBounds_toArray, List.set_cons_zero, List.set_cons_succ]
        refine wpAnyH_ready (rs := [7, 19]) (by kernel_rfl) (by simp) ?_
        refine (AllReadyH.cons (o := { dst := some 86, op := Op.box 101 (Operand.tmp 85), type := 82, pos := "law.go:53", after := #[{ on := 6, ground := Ground.data }, { on := 19, ground := Ground.gcOnly Departure.lateStores }], guard := none }) rfl (fun K hK => ?_) (AllReadyH.cons (o := { dst := none, op := Op.store 81 (Operand.tmp 4) (Operand.tmp 79), type := 0, pos := "law.go:53", after := #[{ on := 0, ground := Ground.data }, { on := 13, ground := Ground.chain }, { on := 0, ground := Ground.phase }, { on := 1, ground := Ground.textOnly Departure.lateStores }, { on := 2, ground := Ground.textOnly Departure.lateStores }, { on := 3, ground := Ground.textOnly Departure.lateStoresUnsure }, { on := 4, ground := Ground.textOnly Departure.lateStores }, { on := 5, ground := Ground.textOnly Departure.lateStores }, { on := 6, ground := Ground.textOnly Departure.lateStores }, { on := 7, ground := Ground.textOnly Departure.lateStores }, { on := 8, ground := Ground.textOnly Departure.lateStores }, { on := 9, ground := Ground.textOnly Departure.lateStores }, { on := 10, ground := Ground.textOnly Departure.lateStores }, { on := 11, ground := Ground.textOnly Departure.lateStores }, { on := 12, ground := Ground.textOnly Departure.lateStores }, { on := 13, ground := Ground.textOnly Departure.lateStores }, { on := 14, ground := Ground.textOnly Departure.lateStores }, { on := 15, ground := Ground.textOnly Departure.lateStores }, { on := 16, ground := Ground.textOnly Departure.lateStores }, { on := 17, ground := Ground.textOnly Departure.lateStores }, { on := 18, ground := Ground.textOnly Departure.lateStores }], guard := none }) rfl (fun K hK => ?_) AllReadyH.nil))
        · skip
          have H0 := hHeld
          go_simp
          refine hK.out _ _ ?_ (fun hHeld => ?_)
          · exact Row.alloc hHeld _
          clear hK K
          try simp only [Act.put, List.setIfInBounds_toArray, List.set_cons_zero, List.set_cons_succ]
          refine wpAnyH_ready (rs := [19]) (by kernel_rfl) (by simp) ?_
          refine (AllReadyH.cons (o := { dst := none, op := Op.store 81 (Operand.tmp 4) (Operand.tmp 79), type := 0, pos := "law.go:53", after := #[{ on := 0, ground := Ground.data }, { on := 13, ground := Ground.chain }, { on := 0, ground := Ground.phase }, { on := 1, ground := Ground.textOnly Departure.lateStores }, { on := 2, ground := Ground.textOnly Departure.lateStores }, { on := 3, ground := Ground.textOnly Departure.lateStoresUnsure }, { on := 4, ground := Ground.textOnly Departure.lateStores }, { on := 5, ground := Ground.textOnly Departure.lateStores }, { on := 6, ground := Ground.textOnly Departure.lateStores }, { on := 7, ground := Ground.textOnly Departure.lateStores }, { on := 8, ground := Ground.textOnly Departure.lateStores }, { on := 9, ground := Ground.textOnly Departure.lateStores }, { on := 10, ground := Ground.textOnly Departure.lateStores }, { on := 11, ground := Ground.textOnly Departure.lateStores }, { on := 12, ground := Ground.textOnly Departure.lateStores }, { on := 13, ground := Ground.textOnly Departure.lateStores }, { on := 14, ground := Ground.textOnly Departure.lateStores }, { on := 15, ground := Ground.textOnly Departure.lateStores }, { on := 16, ground := Ground.textOnly Departure.lateStores }, { on := 17, ground := Ground.textOnly Departure.lateStores }, { on := 18, ground := Ground.textOnly Departure.lateStores }], guard := none }) rfl (fun K hK => ?_) AllReadyH.nil)
          have H3 := hHeld
          go_simp
          refine hK.out _ _ ?_ (fun hHeld => ?_)
          · first | exact Row.other (a := ⟨b + 1, 1, none⟩) (Row.other (a := ⟨b + 1, 0, none⟩) hHeld hsb _) hsb _ | exact Row.alloc (Row.other (a := ⟨b + 1, 1, none⟩) (Row.other (a := ⟨b + 1, 0, none⟩) H0 hsb _) hsb _) _
          clear hK K
          try simp only [Act.put, List.setIfInBounds_toArray, List.set_cons_zero, List.set_cons_succ]
          refine wpAnyH_take (i := 20) (oi := { dst := some 5, op := Op.assign (Operand.tmp 86), type := 82, pos := "law.go:53", after := #[{ on := 7, ground := Ground.data }, { on := 19, ground := Ground.chain }, { on := 0, ground := Ground.phase }, { on := 1, ground := Ground.phase }, { on := 2, ground := Ground.phase }, { on := 3, ground := Ground.phase }, { on := 4, ground := Ground.phase }, { on := 5, ground := Ground.phase }, { on := 6, ground := Ground.phase }, { on := 7, ground := Ground.phase }, { on := 8, ground := Ground.textOnly Departure.lateStores }, { on := 9, ground := Ground.textOnly Departure.lateStores }, { on := 10, ground := Ground.textOnly Departure.lateStores }, { on := 11, ground := Ground.textOnly Departure.lateStores }, { on := 12, ground := Ground.textOnly Departure.lateStores }, { on := 13, ground := Ground.textOnly Departure.lateStores }, { on := 14, ground := Ground.textOnly Departure.lateStores }, { on := 15, ground := Ground.textOnly Departure.lateStores }, { on := 16, ground := Ground.textOnly Departure.lateStores }, { on := 17, ground := Ground.textOnly Departure.lateStores }, { on := 18, ground := Ground.textOnly Departure.lateStores }, { on := 19, ground := Ground.phase }], guard := none }) (v := ?_) rfl (by kernel_rfl) (by kernel_rfl) (by kernel_rfl) (fun _ _ _ h => h) (Or.inl ⟨by rfl, ?_⟩) (by assumption) ?_
          rotate_left
          · (intro w hSw; (try dsimp only at hSw); go_simp; try with_reducible rfl)
          try simp only [Act.put, List.setIfInBounds_toArray, List.set_cons_zero, List.set_cons_succ]
          refine wpAnyH_take (i := 21) (oi := { dst := some 6, op := Op.assign (Operand.tmp 97), type := 4, pos := "law.go:53", after := #[{ on := 18, ground := Ground.data }, { on := 20, ground := Ground.chain }, { on := 0, ground := Ground.phase }, { on := 1, ground := Ground.phase }, { on := 2, ground := Ground.phase }, { on := 3, ground := Ground.phase }, { on := 4, ground := Ground.phase }, { on := 5, ground := Ground.phase }, { on := 6, ground := Ground.phase }, { on := 7, ground := Ground.phase }, { on := 8, ground := Ground.phase }, { on := 9, ground := Ground.phase }, { on := 10, ground := Ground.phase }, { on := 11, ground := Ground.phase }, { on := 12, ground := Ground.phase }, { on := 13, ground := Ground.phase }, { on := 14, ground := Ground.phase }, { on := 15, ground := Ground.phase }, { on := 16, ground := Ground.phase }, { on := 17, ground := Ground.phase }, { on := 18, ground := Ground.phase }, { on := 19, ground := Ground.phase }, { on := 20, ground := Ground.phase }], guard := none }) (v := ?_) rfl (by kernel_rfl) (by kernel_rfl) (by kernel_rfl) (fun _ _ _ h => h) (Or.inl ⟨by rfl, ?_⟩) (by assumption) ?_
          rotate_left
          · (intro w hSw; (try dsimp only at hSw); go_simp; try with_reducible rfl)
          try simp only [Act.put, List.setIfInBounds_toArray, List.set_cons_zero, List.set_cons_succ]
          refine wpAnyH_done (by kernel_rfl) ?_ _
          have FF := Lib.hid (fin_S HT.out HR.out.2.2.1 hG4 hR3 (.pointer (some ⟨b + 2 + 1, 0, none⟩)) (.pointer (some ⟨tl, 0, none⟩)) (.pointer (some ⟨g' + 1, 0, none⟩)) (.pointer (some ⟨U.heap.size, 0, none⟩)) (.bool true))
          have ORD := Lib.hid HT.out
          go_wp2_with fail
          have hb1 := (HR.out.2.1.grown hG4 (by simp))
          have hsf := ((HSP.out.keep hG4).set hb1 (by decide) (by decide) (by decide) (by decide) FF.out.2.2.2.2.2.2)
          clear hb1
          refine ret_S2 rfl rfl rfl rfl rfl FF.out.1 ?_
          have o := ORD.out.ord
          have sz := ORD.out.sz
          have z1 := HR.out.2.2.1.size
          have z2 := HT.out.gr.size
          exact ⟨b + 2 + 1, b + 2, g' + 1, g', _, _, tl, rfl, by rw [sz]; exact hsf, FF.out.2.2.1, by omega, FF.out.2.2.2.1, FF.out.2.2.2.2.2.1, by omega, FF.out.2.2.2.2.1, by omega⟩
        · skip
          have H3 := hHeld
          go_simp
          refine hK.out _ _ ?_ (fun hHeld => ?_)
          · first | exact Row.other (a := ⟨b + 1, 1, none⟩) (Row.other (a := ⟨b + 1, 0, none⟩) hHeld hsb _) hsb _ | exact Row.alloc (Row.other (a := ⟨b + 1, 1, none⟩) (Row.other (a := ⟨b + 1, 0, none⟩) H0 hsb _) hsb _) _
          clear hK K
          try simp only [Act.put, List.setIfInBounds_toArray, List.set_cons_zero, List.set_cons_succ]
          refine wpAnyH_ready (rs := [7]) (by kernel_rfl) (by simp) ?_
          refine (AllReadyH.cons (o := { dst := some 86, op := Op.box 101 (Operand.tmp 85), type := 82, pos := "law.go:53", after := #[{ on := 6, ground := Ground.data }, { on := 19, ground := Ground.gcOnly Departure.lateStores }], guard := none }) rfl (fun K hK => ?_) AllReadyH.nil)
          have H0 := hHeld
          go_simp
          refine hK.out _ _ ?_ (fun hHeld => ?_)
          · exact Row.alloc hHeld _
          clear hK K
          try simp only [Act.put, List.setIfInBounds_toArray, List.set_cons_zero, List.set_cons_succ]
          refine wpAnyH_take (i := 20) (oi := { dst := some 5, op := Op.assign (Operand.tmp 86), type := 82, pos := "law.go:53", after := #[{ on := 7, ground := Ground.data }, { on := 19, ground := Ground.chain }, { on := 0, ground := Ground.phase }, { on := 1, ground := Ground.phase }, { on := 2, ground := Ground.phase }, { on := 3, ground := Ground.phase }, { on := 4, ground := Ground.phase }, { on := 5, ground := Ground.phase }, { on := 6, ground := Ground.phase }, { on := 7, ground := Ground.phase }, { on := 8, ground := Ground.textOnly Departure.lateStores }, { on := 9, ground := Ground.textOnly Departure.lateStores }, { on := 10, ground := Ground.textOnly Departure.lateStores }, { on := 11, ground := Ground.textOnly Departure.lateStores }, { on := 12, ground := Ground.textOnly Departure.lateStores }, { on := 13, ground := Ground.textOnly Departure.lateStores }, { on := 14, ground := Ground.textOnly Departure.lateStores }, { on := 15, ground := Ground.textOnly Departure.lateStores }, { on := 16, ground := Ground.textOnly Departure.lateStores }, { on := 17, ground := Ground.textOnly Departure.lateStores }, { on := 18, ground := Ground.textOnly Departure.lateStores }, { on := 19, ground := Ground.phase }], guard := none }) (v := ?_) rfl (by kernel_rfl) (by kernel_rfl) (by kernel_rfl) (fun _ _ _ h => h) (Or.inl ⟨by rfl, ?_⟩) (by assumption) ?_
          rotate_left
          · (intro w hSw; (try dsimp only at hSw); go_simp; try with_reducible rfl)
          try simp only [Act.put, List.setIfInBounds_toArray, List.set_cons_zero, List.set_cons_succ]
          refine wpAnyH_take (i := 21) (oi := { dst := some 6, op := Op.assign (Operand.tmp 97), type := 4, pos := "law.go:53", after := #[{ on := 18, ground := Ground.data }, { on := 20, ground := Ground.chain }, { on := 0, ground := Ground.phase }, { on := 1, ground := Ground.phase }, { on := 2, ground := Ground.phase }, { on := 3, ground := Ground.phase }, { on := 4, ground := Ground.phase }, { on := 5, ground := Ground.phase }, { on := 6, ground := Ground.phase }, { on := 7, ground := Ground.phase }, { on := 8, ground := Ground.phase }, { on := 9, ground := Ground.phase }, { on := 10, ground := Ground.phase }, { on := 11, ground := Ground.phase }, { on := 12, ground := Ground.phase }, { on := 13, ground := Ground.phase }, { on := 14, ground := Ground.phase }, { on := 15, ground := Ground.phase }, { on := 16, ground := Ground.phase }, { on := 17, ground := Ground.phase }, { on := 18, ground := Ground.phase }, { on := 19, ground := Ground.phase }, { on := 20, ground := Ground.phase }], guard := none }) (v := ?_) rfl (by kernel_rfl) (by kernel_rfl) (by kernel_rfl) (fun _ _ _ h => h) (Or.inl ⟨by rfl, ?_⟩) (by assumption) ?_
          rotate_left
          · (intro w hSw; (try dsimp only at hSw); go_simp; try with_reducible rfl)
          try simp only [Act.put, List.setIfInBounds_toArray, List.set_cons_zero, List.set_cons_succ]
          refine wpAnyH_done (by kernel_rfl) ?_ _
          have FF := Lib.hid (fin_S HT.out HR.out.2.2.1 hG4 hR3 (.pointer (some ⟨b + 2 + 1, 0, none⟩)) (.pointer (some ⟨tl, 0, none⟩)) (.pointer (some ⟨g' + 1, 0, none⟩)) (.pointer (some ⟨U.heap.size, 0, none⟩)) (.bool true))
          have ORD := Lib.hid HT.out
          go_wp2_with fail
          have hb1 := (HR.out.2.1.grown hG4 (by simp))
          have hsf := ((HSP.out.keep hG4).set hb1 (by decide) (by decide) (by decide) (by decide) FF.out.2.2.2.2.2.2)
          clear hb1
          refine ret_S2 rfl rfl rfl rfl rfl FF.out.1 ?_
          have o := ORD.out.ord
          have sz := ORD.out.sz
          have z1 := HR.out.2.2.1.size
          have z2 := HT.out.gr.size
          exact ⟨b + 2 + 1, b + 2, g' + 1, g', _, _, tl, rfl, by rw [sz]; exact hsf, FF.out.2.2.1, by omega, FF.out.2.2.2.1, FF.out.2.2.2.2.2.1, by omega, FF.out.2.2.2.2.1, by omega⟩
end Go.Proofs.Ytkfmcbhoendocaa
end
