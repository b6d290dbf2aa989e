/-
  Proved: for any eight addresses, any hart and any store, the law AmoStores returns true: a store ends just the reservations of others whose blocks it has a byte of.
  Conditions: none beyond the statement's own (its listed variable is tied to the program's text).
-/
import Derived.Test.YtaanmebebapbpaaDoorRows
import Derived.Test.YtaanmebebapbpaaDoorCards
import Derived.Test.YtaanmebebapbpaaDoorTie
import Derived.Test.YtaanmebebapbpaaDoorOpen
import Derived.Lib.Hide
import Derived.SevenTiedAt
import Derived.Deep.RegionHeld3
import Derived.BigQuiet
import Derived.IntWalk
import Derived.Test.YtaanmebebapbpaaDoorAmoDoor
import Derived.Test.YtaanmebebapbpaaDoorAmoLaw
import Derived.Test.YtaanmebebapbpaaDoorAmoY
namespace Go.Proofs.YtaanmebebapbpaaDoor.amoStores
open Go Go.ChangeShapes Go.WideShapes Go.ChangeAt Go.RowKit W M D A
set_option linter.unusedVariables false

theorem and_7 (x : Int) (h : 0 ≤ x ∧ x ≤ 255) : bits .and .u8 x 7 = x % 8 := by
  obtain ⟨n, rfl⟩ : ∃ n : Nat, x = n := ⟨x.toNat, by omega⟩
  have hn : n < 256 := by omega
  revert n
  intro n _ hn
  have : ∀ m : Nat, m < 256 → bits .and .u8 (m : Int) 7 = (m : Int) % 8 := by decide +kernel
  exact this n hn
/-- The first k harts have set theirs. -/
def Sets (f : Nat → Int) (k : Nat) (s : St) : Prop := ∀ i, i < 8 → isS s i = decide (i < k) ∧ (i < k → atS s i = blk (f i))
theorem sets0 (f : Nat → Int) : Sets f 0 st0 := fun i hi => by
  have : ∀ i, i < 8 → isS st0 i = false := by decide +kernel
  exact ⟨by rw [this i hi]; simp, fun h => absurd h (by omega)⟩
theorem Sets.next {f : Nat → Int} {k : Nat} {s : St} (h : Sets f k s) (hl : s.length = 8) (hk : k < 8) : Sets f (k + 1) (setS s k (f k)) := fun i hi => by
  rw [setS, if_pos ((isH_iff k).2 (by omega)), Int.toNat_natCast, is_set _ _ _ _ _ (by omega), at_set _ _ _ _ _ (by omega)]
  by_cases e : i = k
  · subst e
    simp
  · rw [if_neg e, if_neg e]
    obtain ⟨h1, h2⟩ := h i hi
    exact ⟨by rw [h1]; exact decide_eq_decide.2 (by omega), fun hlt => h2 (by omega)⟩
/-- Which reservations stand behind the store. -/
theorem stands {f : Nat → Int} {s : St} (h : Sets f 8 s) (g : A.Good s) (hf : ∀ i, B64 (f i)) (k : Nat) (hk : k < 8) (a : Int) (ha : B64 a) (n : Nat) (hn : n ≤ 64) (i : Nat) (hi : i < 8) :
    isS (storedS s k a n) i = (decide ((i : Int) = k) || !hitN (blk (f i)) a n) := by
  obtain ⟨h1, h2⟩ := h i hi
  rw [decide_eq_true hi] at h1
  by_cases h0 : 1 ≤ n
  · have hm := hit_meet (blk (f i)) a n (blk_bd (hf i)) (blk_by8 _) ha (by omega) (by omega)
    rw [Int.toNat_natCast] at hm
    rw [stored_is g k a n ((isH_iff k).2 (by omega)) (by omega) i hi, h1, h2 hi, ← hm]
    by_cases e : (i : Int) = k
    · simp [e]
    · simp [e]
  · obtain rfl : n = 0 := by omega
    rw [storedS, if_neg (by simp), h1, hitN]
    simp
theorem same_blk (x c : Int) : (x / 8 == c / 8) = decide (blk c = blk x) := by
  rw [Bool.eq_iff_iff, beq_iff_eq, decide_eq_true_eq]
  unfold blk
  omega
/-- How all stands while the law runs. -/
structure Stand (w : World) (q p : Nat) (f : Nat → Int) (a n : Int) (s : St) (wr : World) : Prop where
  res : RAt wr p s
  ats : Row wr q 33 (iC f)
  sto : Row wr (q + 1) 56 [.int .u64 a, .int .u8 n]
  lt : q + 1 < p
  sz : w.heap.size = q
  gr : w.grownBy wr none
theorem Stand.keep {w wr ws : World} {q p : Nat} {f : Nat → Int} {a n : Int} {s : St} (h : Stand w q p f a n s wr) (hg : wr.grownBy ws none) : Stand w q p f a n s ws :=
  ⟨h.res.kept hg, h.ats.grown hg (by simp), h.sto.grown hg (by simp), h.lt, h.sz, gr_trans h.gr hg⟩
theorem Stand.wrote {w wr ws : World} {q p : Nat} {f : Nat → Int} {a n : Int} {s s' : St} (h : Stand w q p f a n s wr) (hr : RAt ws p s') (hg : wr.grownBy ws (some p)) : Stand w q p f a n s' ws := by
  have := h.lt
  have := h.sz
  exact ⟨hr, h.ats.grown hg (some_ne (by omega)), h.sto.grown hg (some_ne (by omega)), h.lt, h.sz, gr_row (gr_trans (gr_none h.gr _) hg) (by omega)⟩

set_option maxRecDepth 100000 in
set_option maxHeartbeats 8000000 in
theorem walk (w : World) (hL : Tbl w) (a0_0 : Int) (w0_0 : (Lit.int .u64 a0_0).wf = true) (a0_1 : Int) (w0_1 : (Lit.int .u64 a0_1).wf = true) (a0_2 : Int) (w0_2 : (Lit.int .u64 a0_2).wf = true) (a0_3 : Int) (w0_3 : (Lit.int .u64 a0_3).wf = true) (a0_4 : Int) (w0_4 : (Lit.int .u64 a0_4).wf = true) (a0_5 : Int) (w0_5 : (Lit.int .u64 a0_5).wf = true) (a0_6 : Int) (w0_6 : (Lit.int .u64 a0_6).wf = true) (a0_7 : Int) (w0_7 : (Lit.int .u64 a0_7).wf = true) (a1 : Int) (w1 : (Lit.int .u8 a1).wf = true) (a2_0 : Int) (w2_0 : (Lit.int .u64 a2_0).wf = true) (a2_1 : Int) (w2_1 : (Lit.int .u8 a2_1).wf = true) :
    Calls Tryd.prog 8 #[.agg #[.int .u64 a0_0, .int .u64 a0_1, .int .u64 a0_2, .int .u64 a0_3, .int .u64 a0_4, .int .u64 a0_5, .int .u64 a0_6, .int .u64 a0_7], .int .u8 a1, .agg #[.int .u64 a2_0, .int .u8 a2_1]] w fun e w' => e = .returned (.bool true) ∧ Below w.heap.size w w' := by
  have b0 := bounds_u64 w0_0
  have b1 := bounds_u64 w0_1
  have b2 := bounds_u64 w0_2
  have b3 := bounds_u64 w0_3
  have b4 := bounds_u64 w0_4
  have b5 := bounds_u64 w0_5
  have b6 := bounds_u64 w0_6
  have b7 := bounds_u64 w0_7
  have h1 := bounds_u8 w1
  have ha : B64 a2_0 := bounds_u64 w2_0
  have hnb := bounds_u8 w2_1
  clear w0_0 w0_1 w0_2 w0_3 w0_4 w0_5 w0_6 w0_7 w1 w2_0 w2_1
  obtain ⟨f, hfd⟩ : ∃ f : Nat → Int, f = fun i => [a0_0, a0_1, a0_2, a0_3, a0_4, a0_5, a0_6, a0_7].getD i 0 := ⟨_, rfl⟩
  have hf : ∀ i, B64 (f i) := by
    intro i
    rw [hfd]
    rcases Nat.lt_or_ge i 8 with hi | hi
    · rcases eight' i hi with rfl | rfl | rfl | rfl | rfl | rfl | rfl | rfl
      · exact b0
      · exact b1
      · exact b2
      · exact b3
      · exact b4
      · exact b5
      · exact b6
      · exact b7
    · show B64 (List.getD _ i 0)
      rw [List.getD_eq_getElem?_getD, List.getElem?_eq_none (by simpa using hi)]
      exact zero_bd
  have hcel : iC f = [.int .u64 a0_0, .int .u64 a0_1, .int .u64 a0_2, .int .u64 a0_3, .int .u64 a0_4, .int .u64 a0_5, .int .u64 a0_6, .int .u64 a0_7] := by rw [hfd]; rfl
  clear hfd b0 b1 b2 b3 b4 b5 b6 b7
  have HF := Lib.hid hf
  have Z0 := gr_alloc (gr_alloc (gr_refl w none) (.cells #[.int .u64 a0_0, .int .u64 a0_1, .int .u64 a0_2, .int .u64 a0_3, .int .u64 a0_4, .int .u64 a0_5, .int .u64 a0_6, .int .u64 a0_7] 33)) (.cells #[.int .u64 a2_0, .int .u8 a2_1] 56)
  have L0 := Lib.hid (hL.grown Z0)
  have R0 := (Row.fresh w 33 [.int .u64 a0_0, .int .u64 a0_1, .int .u64 a0_2, .int .u64 a0_3, .int .u64 a0_4, .int .u64 a0_5, .int .u64 a0_6, .int .u64 a0_7]).alloc (.cells #[.int .u64 a2_0, .int .u8 a2_1] 56)
  have R1 := Row.fresh (w.alloc (.cells #[.int .u64 a0_0, .int .u64 a0_1, .int .u64 a0_2, .int .u64 a0_3, .int .u64 a0_4, .int .u64 a0_5, .int .u64 a0_6, .int .u64 a0_7] 33)) 56 [.int .u64 a2_0, .int .u8 a2_1]
  rw [show (w.alloc (.cells #[.int .u64 a0_0, .int .u64 a0_1, .int .u64 a0_2, .int .u64 a0_3, .int .u64 a0_4, .int .u64 a0_5, .int .u64 a0_6, .int .u64 a0_7] 33)).heap.size = w.heap.size + 1 from by simp] at R1
  have hsz : ((w.alloc (.cells #[.int .u64 a0_0, .int .u64 a0_1, .int .u64 a0_2, .int .u64 a0_3, .int .u64 a0_4, .int .u64 a0_5, .int .u64 a0_6, .int .u64 a0_7] 33)).alloc (.cells #[.int .u64 a2_0, .int .u8 a2_1] 56)).heap.size = w.heap.size + 1 + 1 := by simp
  have HS := Lib.hid (show ∃ V, V = ((w.alloc (.cells #[.int .u64 a0_0, .int .u64 a0_1, .int .u64 a0_2, .int .u64 a0_3, .int .u64 a0_4, .int .u64 a0_5, .int .u64 a0_6, .int .u64 a0_7] 33)).alloc (.cells #[.int .u64 a2_0, .int .u8 a2_1] 56)) ∧ Row V w.heap.size 33 (iC f) ∧ Row V (w.heap.size + 1) 56 [.int .u64 a2_0, .int .u8 a2_1] ∧ w.grownBy V none ∧ V.heap.size = w.heap.size + 1 + 1 from ⟨_, rfl, by rw [hcel]; exact R0, R1, Z0, hsz⟩)
  clear hL R0 R1 Z0 hsz hcel hf
  obtain ⟨k, hk⟩ : ∃ k : Nat, a1 % 8 = k := ⟨(a1 % 8).toNat, by omega⟩
  have k8 : k < 8 := by omega
  have hand := and_7 a1 h1
  rw [hk] at hand
  obtain ⟨n, hn⟩ : ∃ n : Nat, a2_1 % 65 = n := ⟨(a2_1 % 65).toNat, by omega⟩
  have n64 : n ≤ 64 := by omega
  have HA := Lib.hid ha
  unfold B64 at ha
  go_enter Tryd.func8, Tryd.ntmps8
  go_wp2_with fail
  refine (shown08_c _ L0.out).mono ?_
  rintro e w1 ⟨rfl, g1⟩
  go_wp2_with fail
  refine (Fresh_c _).mono ?_
  rintro e w2 ⟨rfl, hR2, g2⟩
  have hSt : Stand w w.heap.size w1.heap.size f a2_0 a2_1 st0 w2 := by
    obtain ⟨V, rfl, r0, r1, z0, zs⟩ := HS.out
    have := g1.size
    exact ⟨hR2, (r0.grown g1 (by simp)).grown g2 (by simp), (r1.grown g1 (by simp)).grown g2 (by simp), by omega, rfl, gr_trans (gr_trans z0 g1) g2⟩
  clear HS L0 g1 g2 hR2
  generalize hp : w1.heap.size = p at *
  generalize hq : w.heap.size = q at *
  clear hp hq
  go_wp2_with fail
  go_loopw [9] (fun i wr => ∃ (j : Nat) (s : St), j ≤ 8 ∧ i = .int .i64 j ∧ Stand w q p f a2_0 a2_1 s wr ∧ Sets f j s) (fun i _ => 8 - (intOf i).toNat)
  case atStart => exact ⟨0, st0, by omega, rfl, hSt, sets0 f⟩
  case round =>
    clear hSt
    obtain ⟨j, s, hj, rfl, hSt, hSe⟩ := hrel
    by_cases hj8 : j < 8
    · have c0 := (hSt.ats.cell j).trans (iC_get f j hj8)
      go_wp2_with fail
      refine (Set_c p s j (f j) (by omega) (HF.out j) _ hSt.res).mono ?_
      rintro e ws ⟨rfl, hR, hG⟩
      have hS2 := hSt.wrote hR hG
      have hS3 := hSe.next hSt.res.good.len hj8
      clear c0 hR hG hSt hSe
      go_wp2_with fail
      go_roundw
      case rel => exact ⟨j + 1, _, by omega, by go_num, hS2, hS3⟩
      case measure => simp [intOf]; omega
    · obtain rfl : j = 8 := by omega
      have c0 := hSt.sto.cell 0
      have c1 := hSt.sto.cell 1
      simp only [List.getElem?_cons_zero, List.getElem?_cons_succ] at c0 c1
      go_wp2_with fail
      refine (Stored_c p s k a2_0 n (by omega) HA.out (by omega) _ hSt.res).mono ?_
      rintro e ws ⟨rfl, hR, hG⟩
      have HZ := Lib.hid (fun i (hi : i < 8) => stands hSe hSt.res.good HF.out k k8 a2_0 HA.out n n64 i hi)
      have hS2 := hSt.wrote hR hG
      generalize storedS s k a2_0 n = sF at *
      clear c0 c1 hR hG hSt hSe
      go_wp2_with fail
      go_loopw [12] (fun i wr => ∃ (j : Nat), j ≤ 8 ∧ i = .int .i64 j ∧ Stand w q p f a2_0 a2_1 sF wr) (fun i _ => 8 - (intOf i).toNat)
      case atStart => exact ⟨0, by omega, rfl, hS2⟩
      case round =>
        clear hS2
        obtain ⟨j, hj, rfl, hSt⟩ := hrel
        by_cases hj8 : j < 8
        · have c0 := hSt.sto.cell 0
          simp only [List.getElem?_cons_zero] at c0
          have c1 := (hSt.ats.cell j).trans (iC_get f j hj8)
          have hc := HF.out j
          have Z := HZ.out j hj8
          generalize f j = c at *
          unfold B64 at hc
          go_wp2_with fail
          go_loopw [13, 14] (fun u i wr' => ∃ (m d : Nat), m ≤ n ∧ u = .bool (hitN (blk c) a2_0 m) ∧ i = .int .i64 m ∧ wr' = wr.drewN d) (fun _ i _ => n - (intOf i).toNat)
          case atStart => exact ⟨0, 0, by omega, rfl, rfl, rfl⟩
          case round =>
            obtain ⟨m, d, hm, rfl, rfl, rfl⟩ := hrel
            by_cases hmn : m < n
            · have HN : Hid (hitN (blk c) a2_0 (m + 1) = (hitN (blk c) a2_0 m || decide (blk c = blk (IntKind.u64.wrap (a2_0 + m))))) := Lib.hid rfl
              rw [← same_blk] at HN
              generalize hitN (blk c) a2_0 m = t at *
              have hu := u64_bd (a2_0 + m)
              cases t
              · go_wp2_with fail
                go_quiet (fail)
                go_wp2_with fail
                go_roundw
                case rel => exact ⟨m + 1, _, by omega, by rw [HN.out]; rfl, by go_num, rfl⟩
                case measure => simp [intOf]; omega
              · go_wp2_with fail
                go_quiet (fail)
                go_wp2_with fail
                go_roundw
                case rel => exact ⟨m + 1, _, by omega, by rw [HN.out]; rfl, by go_num, rfl⟩
                case measure => simp [intOf]; omega
            · obtain rfl : m = n := by omega
              have hS3 := hSt.keep (gr_drewN (gr_refl wr none) d)
              have HH := Has_c p sF j (by omega) _ hS3.res
              rw [if_pos ((isH_iff j).2 (by omega)), (isH_iff j).2 (by omega), Int.toNat_natCast, Bool.true_and, Z] at HH
              have HHH := Lib.hid HH
              clear HH c0 c1
              generalize hitN (blk c) a2_0 m = t at *
              by_cases e : j = k
              · subst e
                rw [show decide ((j : Int) = j) = true from by simp, Bool.true_or] at HHH
                go_wp2_with fail
                refine HHH.out.mono ?_
                rintro e ws' ⟨rfl, g3⟩
                have hS4 := hS3.keep g3
                go_wp2_with fail
                go_roundw
                case rel => exact ⟨j + 1, by omega, by go_num, hS4⟩
                case measure => simp [intOf]; omega
              · have dj : ((j : Int) == k) = false := by simp; omega
                rw [show decide ((j : Int) = k) = false from by simp; omega, Bool.false_or] at HHH
                cases t
                all_goals
                  go_wp2_with fail
                  refine HHH.out.mono ?_
                  rintro e ws' ⟨rfl, g3⟩
                  have hS4 := hS3.keep g3
                  go_wp2_with fail
                  go_roundw
                  case rel => exact ⟨j + 1, by omega, by go_num, hS4⟩
                  case measure => simp [intOf]; omega
        · obtain rfl : j = 8 := by omega
          go_wp2_with fail
          go_ret
          exact ⟨rfl, gr_below hSt.gr⟩

theorem own : ownKnob Tryd.prog.godebug = none := by kernel_rfl
theorem laidOut : laidOutB Tryd.prog = true := by kernel_rfl

set_option maxRecDepth 100000 in
theorem lifted (os : Os) (started : os.Started) (H : Type) (enc : TypeId × Value → H) :
    ReturnsInHanded {} Tryd.checked os 8 .any (fun w args => (Rows.amoStoresSpec.pre enc Tryd.prog Tryd.f8 [] false w args ∧ laidMetH Tryd.prog laidL w) ∧ sizedMet enc Tryd.prog Tryd.f8 (OpenSpec.ofChange Rows.amoStoresSpec) false w args)
      (Rows.amoStoresSpec.post enc Tryd.prog Tryd.f8 false true false false) := by
  refine returnsInHanded_of_change_and (C := Tryd.checked) (X := fun w _ => laidMetH Tryd.prog laidL w) (fun _ _ _ hh h => h.of_heap hh) own started (by kernel_rfl) Tryd.func8
    (ChangeSpec.witness_shaped (enc := enc) (C := Tryd.checked) (os := os) (X := fun w _ => laidMetH Tryd.prog laidL w) false (World.doorLaid Tryd.prog 400 os) #[.agg #[.int .u64 0, .int .u64 0, .int .u64 0, .int .u64 0, .int .u64 0, .int .u64 0, .int .u64 0, .int .u64 0], .int .u8 0, .agg #[.int .u64 0, .int .u8 0]] 8 rfl (World.shaped_of_RefB (by kernel_rfl) (by kernel_rfl)) (by kernel_rfl) (by kernel_rfl) (by kernel_rfl) (door_met os _)) ?_
  intro W base args ds gs before hval0 hW _ _ hL _
  have hval : ∀ (j : Nat) t v, Tryd.f8.params[j]? = some t → args[j]? = some v → Value.okWide Tryd.prog W .any base t v := hval0
  have hW' := hW
  obtain ⟨p, q, hA0, hV, rfl, hfz, hnd⟩ := hW
  have hA : DataW.TrodAll enc Tryd.prog W 0 (fun _ => true) true Tryd.f8.params.toList args.toList ds p := hA0
  rw [Tryd.params8] at hA hval
  obtain ⟨v0, vs0, d0, ds0, p0, q0, hargs, rfl, rfl, h0, r0⟩ := trodAll_cons hA
  obtain ⟨v1, vs1, d1, ds1, p1, q1, rfl, rfl, rfl, h1, r1⟩ := trodAll_cons r0
  obtain ⟨v2, vs2, d2, ds2, p2, q2, rfl, rfl, rfl, h2, r2⟩ := trodAll_cons r1
  obtain ⟨rfl, rfl, rfl⟩ := trodAll_nil r2
  obtain rfl : args = #[v0, v1, v2] := by cases args; simp_all
  obtain ⟨rfl, rfl⟩ := trodVars_none hV
  clear hA0 hval0 hA
  have k0 := h0
  have lt0 : ∀ x ∈ p0, x.block < W.heap.size := by obtain ⟨m, hm⟩ := k0; exact DataW.trod_lt m _ _ _ hm
  obtain ⟨xs0, rfl, l0, w0⟩ := Op.open_arr_int Tryd.underlying33 Tryd.underlying22 (by kernel_rfl) (by kernel_rfl) (hval 0 33 v0 rfl rfl) h0
  obtain _ | ⟨a0_0, xs0⟩ := xs0
  · simp at l0
  obtain _ | ⟨a0_1, xs0⟩ := xs0
  · simp at l0
  obtain _ | ⟨a0_2, xs0⟩ := xs0
  · simp at l0
  obtain _ | ⟨a0_3, xs0⟩ := xs0
  · simp at l0
  obtain _ | ⟨a0_4, xs0⟩ := xs0
  · simp at l0
  obtain _ | ⟨a0_5, xs0⟩ := xs0
  · simp at l0
  obtain _ | ⟨a0_6, xs0⟩ := xs0
  · simp at l0
  obtain _ | ⟨a0_7, xs0⟩ := xs0
  · simp at l0
  obtain _ | ⟨_, _⟩ := xs0
  rotate_left
  · simp at l0
  clear h0
  simp only [List.map_cons, List.map_nil] at *
  have w0_0 := w0 a0_0 (by simp)
  have w0_1 := w0 a0_1 (by simp)
  have w0_2 := w0 a0_2 (by simp)
  have w0_3 := w0 a0_3 (by simp)
  have w0_4 := w0 a0_4 (by simp)
  have w0_5 := w0 a0_5 (by simp)
  have w0_6 := w0 a0_6 (by simp)
  have w0_7 := w0 a0_7 (by simp)
  have k1 := h1
  have lt1 : ∀ x ∈ p1, x.block < W.heap.size := by obtain ⟨m, hm⟩ := k1; exact DataW.trod_lt m _ _ _ hm
  obtain ⟨a1, rfl, rfl, rfl, w1⟩ := open_int Tryd.underlying5 (hval 1 5 v1 rfl rfl) h1
  have k2 := h2
  have lt2 : ∀ x ∈ p2, x.block < W.heap.size := by obtain ⟨m, hm⟩ := k2; exact DataW.trod_lt m _ _ _ hm
  obtain ⟨xs2, rfl, l2, m2, f2⟩ := Op.open_struct Tryd.underlying56 (hval 2 56 v2 rfl rfl) h2
  rw [show Tryd.prog.cellsOf 56 = 2 from by kernel_rfl] at l2
  obtain _ | ⟨c2_0, xs2⟩ := xs2
  · simp at l2
  obtain _ | ⟨c2_1, xs2⟩ := xs2
  · simp at l2
  obtain _ | ⟨_, _⟩ := xs2
  rotate_left
  · simp at l2
  clear h2
  obtain ⟨y2_0, g2_0⟩ := f2 0 _ rfl
  replace g2_0 : DataW.trod enc Tryd.prog W 0 (fun _ => true) true m2 22 [c2_0] = some y2_0 := g2_0
  obtain ⟨a2_0, e2_0, _, w2_0⟩ := DataW.trod_int Tryd.underlying22 g2_0
  simp at e2_0; subst e2_0
  obtain ⟨y2_1, g2_1⟩ := f2 1 _ rfl
  replace g2_1 : DataW.trod enc Tryd.prog W 0 (fun _ => true) true m2 5 [c2_1] = some y2_1 := g2_1
  obtain ⟨a2_1, e2_1, _, w2_1⟩ := DataW.trod_int Tryd.underlying5 g2_1
  simp at e2_1; subst e2_1
  refine (walk W (of_laid hL) a0_0 w0_0 a0_1 w0_1 a0_2 w0_2 a0_3 w0_3 a0_4 w0_4 a0_5 w0_5 a0_6 w0_6 a0_7 w0_7 a1 w1 a2_0 w2_0 a2_1 w2_1).mono fun e W' ⟨he, bel⟩ => ?_
  subst he
  exact ⟨_, rfl, _, _, _, [], _, [], hW', trodAll_mk1 (shut_bool Tryd.underlying4 _), (trodAll_cons_mk (Below.trod laidOut (by kernel_rfl) (of_decide_eq_true (by kernel_rfl)) k0 bel lt0) (trodAll_cons_mk (Below.trod laidOut (by kernel_rfl) (of_decide_eq_true (by kernel_rfl)) k1 bel lt1) (trodAll_cons_mk (Below.trod laidOut (by kernel_rfl) (of_decide_eq_true (by kernel_rfl)) k2 bel lt2) trodAll_mk0))), rfl, bel.frame _, fun h => by cases h⟩

theorem over : Rows.AmoStoresSaid :=
  OpenClaim.holds_of_wide 8 Tryd.f8 rfl rfl rfl rfl rfl rfl rfl ⟨rfl, rfl, rfl, rfl, rfl⟩ rfl rfl rfl rfl rfl (by kernel_rfl) Tryd.func8 (by kernel_rfl)
    (of_decide_eq_true (by kernel_rfl)) (by unfold Func.isWrapper; first | (rw [if_pos (by decide +kernel)]; kernel_rfl) | (rw [if_neg (by decide +kernel)]; exact ⟨rfl, rfl⟩))
    (fun os started H enc _ => lifted os started H enc)

/-- The statement: the card, its listed variable tied to the program's text. -/
theorem proved : Rows.AmoStoresCardSaid :=
  Claim7.holds_tied_plain_at .later [] [.data] true (true, "31207531034b7620e56e914a189728be8f7cc7a00cfb548c6c1a0ec61e101d21") false
    over (fun _ h => by cases h) (by kernel_rfl) (fun _ h => by cases h) amoStores_row_tie rfl ⟨rfl, rfl⟩ (by kernel_rfl) rfl
    (fun f fn hf hfn => by
      obtain rfl : f = 8 := Option.some.inj ((show Tryd.prog.funcNamed "suzerain/suzerainlaw08.AmoStores" = some 8 by kernel_rfl).symm.trans hf) |>.symm
      obtain rfl : fn = Tryd.f8 := (Option.some.inj (Tryd.func8.symm.trans hfn)).symm
      exact ⟨by kernel_rfl, fun j t ht => by
        rw [Tryd.params8] at ht
        have hm : t ∈ [33, 5, 56] := by simpa using Array.mem_of_getElem? ht
        have hall : ([33, 5, 56].all fun u => !Tryd.prog.wantsStandIn u) = true := by kernel_rfl
        exact (show Tryd.prog.wantsStandIn t = false by simpa using List.all_eq_true.1 hall t hm)⟩)
    (by kernel_rfl)
#print axioms proved

end Go.Proofs.YtaanmebebapbpaaDoor.amoStores
