/-
  Proved: for any two numbers, any two other higher halves and any atomic op, the law AmoValues returns true.
  Conditions: none beyond the statement's own (its listed variable is tied to the program's text).
-/
import Derived.Test.YtaanmebebapbpaaDoorRows
import Derived.Test.YtaanmebebapbpaaDoorCards
import Derived.Test.YtaanmebebapbpaaDoorTie
import Derived.Test.YtaanmebebapbpaaDoorOpen
import Derived.Lib.Hide
import Derived.SevenTiedAt
import Derived.Deep.RegionHeld3
import Derived.Test.YtaanmebebapbpaaDoorAmoDoor
import Derived.Test.YtaanmebebapbpaaDoorAmoLaw
import Derived.Test.YtaanmebebapbpaaDoorAmoZ
import Derived.Test.YtaanmebebapbpaaDoorAmoV1
import Derived.Test.YtaanmebebapbpaaDoorAmoV2
import Derived.Test.YtaanmebebapbpaaDoorAmoV3
namespace Go.Proofs.YtaanmebebapbpaaDoor.amoValues
open Go Go.ChangeShapes Go.WideShapes Go.ChangeAt Go.RowKit W M D A
set_option linter.unusedVariables false

theorem walk (w : World) (hL : Tbl w) (a0 : Int) (w0 : (Lit.int .u64 a0).wf = true) (a1 : Int) (w1 : (Lit.int .u64 a1).wf = true) (a2_0 : Int) (w2_0 : (Lit.int .u32 a2_0).wf = true) (a2_1 : Int) (w2_1 : (Lit.int .u32 a2_1).wf = true) (a2_2 : Int) (w2_2 : (Lit.int .u8 a2_2).wf = true) :
    Calls Tryd.prog 5 #[.int .u64 a0, .int .u64 a1, .agg #[.int .u32 a2_0, .int .u32 a2_1, .int .u8 a2_2]] w fun e w' => e = .returned (.bool true) ∧ Below w.heap.size w w' := by
  have ha : B64 a0 := bounds_u64 w0
  have hb : B64 a1 := bounds_u64 w1
  have hA := bounds_u32 w2_0
  have hB := bounds_u32 w2_1
  have hc := bounds_u8 w2_2
  obtain ⟨o, ho⟩ : ∃ o, 76 + a2_2 % 22 = o := ⟨_, rfl⟩
  obtain ⟨j, hj⟩ : ∃ j, (o - 76) % 11 = j := ⟨_, rfl⟩
  by_cases hs : o ≤ 86
  · rcases (show j = 0 ∨ (1 ≤ j ∧ j ≤ 2) ∨ (3 ≤ j ∧ j ≤ 6) ∨ (7 ≤ j ∧ j ≤ 10) by omega) with h | h | h | h
    · exact v_s0 w hL a0 a1 a2_0 a2_1 a2_2 o j ha hb hA hB hc ho hj (by omega) (by omega)
    · exact v_s1 w hL a0 a1 a2_0 a2_1 a2_2 o j ha hb hA hB hc ho hj (by omega) (by omega)
    · exact v_s3 w hL a0 a1 a2_0 a2_1 a2_2 o j ha hb hA hB hc ho hj (by omega) (by omega)
    · by_cases hp : newV o a0 a1 = a0 % 4294967296
      · exact v_s7p w hL a0 a1 a2_0 a2_1 a2_2 o j ha hb hA hB hc ho hj (by omega) (by omega) hp
      · rcases small_or o a0 a1 (by omega) with hq | hq
        · exact absurd hq hp
        · exact v_s7q w hL a0 a1 a2_0 a2_1 a2_2 o j ha hb hA hB hc ho hj (by omega) (by omega) hq (fun x => hp (hq.trans x))
  · rcases (show j = 0 ∨ (1 ≤ j ∧ j ≤ 2) ∨ (3 ≤ j ∧ j ≤ 6) ∨ (7 ≤ j ∧ j ≤ 10) by omega) with h | h | h | h
    · exact v_b0 w hL a0 a1 a2_0 a2_1 a2_2 o j ha hb hA hB hc ho hj (by omega) (by omega)
    · exact v_b1 w hL a0 a1 a2_0 a2_1 a2_2 o j ha hb hA hB hc ho hj (by omega) (by omega)
    · exact v_b3 w hL a0 a1 a2_0 a2_1 a2_2 o j ha hb hA hB hc ho hj (by omega) (by omega)
    · by_cases hp : newV o a0 a1 = a0
      · exact v_b7p w hL a0 a1 a2_0 a2_1 a2_2 o j ha hb hA hB hc ho hj (by omega) (by omega) hp
      · rcases big_or o a0 a1 (by omega) with hq | hq
        · exact absurd hq hp
        · exact v_b7q w hL a0 a1 a2_0 a2_1 a2_2 o j ha hb hA hB hc ho hj (by omega) (by omega) hq (fun x => hp (hq.trans x))

theorem own : ownKnob Tryd.prog.godebug = none := by kernel_rfl
theorem laidOut : laidOutB Tryd.prog = true := by kernel_rfl

set_option maxRecDepth 100000 in
theorem lifted (os : Os) (started : os.Started) (H : Type) (enc : TypeId × Value → H) :
    ReturnsInHanded {} Tryd.checked os 5 .any (fun w args => (Rows.amoValuesSpec.pre enc Tryd.prog Tryd.f5 [] false w args ∧ laidMetH Tryd.prog laidL w) ∧ sizedMet enc Tryd.prog Tryd.f5 (OpenSpec.ofChange Rows.amoValuesSpec) false w args)
      (Rows.amoValuesSpec.post enc Tryd.prog Tryd.f5 false true false false) := by
  refine returnsInHanded_of_change_and (C := Tryd.checked) (X := fun w _ => laidMetH Tryd.prog laidL w) (fun _ _ _ hh h => h.of_heap hh) own started (by kernel_rfl) Tryd.func5
    (ChangeSpec.witness_shaped (enc := enc) (C := Tryd.checked) (os := os) (X := fun w _ => laidMetH Tryd.prog laidL w) false (World.doorLaid Tryd.prog 400 os) #[.int .u64 0, .int .u64 0, .agg #[.int .u32 0, .int .u32 0, .int .u8 0]] 8 rfl (World.shaped_of_RefB (by kernel_rfl) (by kernel_rfl)) (by kernel_rfl) (by kernel_rfl) (by kernel_rfl) (door_met os _)) ?_
  intro W base args ds gs before hval0 hW _ _ hL _
  have hval : ∀ (j : Nat) t v, Tryd.f5.params[j]? = some t → args[j]? = some v → Value.okWide Tryd.prog W .any base t v := hval0
  have hW' := hW
  obtain ⟨p, q, hA0, hV, rfl, hfz, hnd⟩ := hW
  have hA : DataW.TrodAll enc Tryd.prog W 0 (fun _ => true) true Tryd.f5.params.toList args.toList ds p := hA0
  rw [Tryd.params5] at hA hval
  obtain ⟨v0, vs0, d0, ds0, p0, q0, hargs, rfl, rfl, h0, r0⟩ := trodAll_cons hA
  obtain ⟨v1, vs1, d1, ds1, p1, q1, rfl, rfl, rfl, h1, r1⟩ := trodAll_cons r0
  obtain ⟨v2, vs2, d2, ds2, p2, q2, rfl, rfl, rfl, h2, r2⟩ := trodAll_cons r1
  obtain ⟨rfl, rfl, rfl⟩ := trodAll_nil r2
  obtain rfl : args = #[v0, v1, v2] := by cases args; simp_all
  obtain ⟨rfl, rfl⟩ := trodVars_none hV
  clear hA0 hval0 hA
  have k0 := h0
  have lt0 : ∀ x ∈ p0, x.block < W.heap.size := by obtain ⟨m, hm⟩ := k0; exact DataW.trod_lt m _ _ _ hm
  obtain ⟨a0, rfl, rfl, rfl, w0⟩ := open_int Tryd.underlying22 (hval 0 22 v0 rfl rfl) h0
  have k1 := h1
  have lt1 : ∀ x ∈ p1, x.block < W.heap.size := by obtain ⟨m, hm⟩ := k1; exact DataW.trod_lt m _ _ _ hm
  obtain ⟨a1, rfl, rfl, rfl, w1⟩ := open_int Tryd.underlying22 (hval 1 22 v1 rfl rfl) h1
  have k2 := h2
  have lt2 : ∀ x ∈ p2, x.block < W.heap.size := by obtain ⟨m, hm⟩ := k2; exact DataW.trod_lt m _ _ _ hm
  obtain ⟨xs2, rfl, l2, m2, f2⟩ := Op.open_struct Tryd.underlying49 (hval 2 49 v2 rfl rfl) h2
  rw [show Tryd.prog.cellsOf 49 = 3 from by kernel_rfl] at l2
  obtain _ | ⟨c2_0, xs2⟩ := xs2
  · simp at l2
  obtain _ | ⟨c2_1, xs2⟩ := xs2
  · simp at l2
  obtain _ | ⟨c2_2, xs2⟩ := xs2
  · simp at l2
  obtain _ | ⟨_, _⟩ := xs2
  rotate_left
  · simp at l2
  clear h2
  obtain ⟨y2_0, g2_0⟩ := f2 0 _ rfl
  replace g2_0 : DataW.trod enc Tryd.prog W 0 (fun _ => true) true m2 47 [c2_0] = some y2_0 := g2_0
  obtain ⟨a2_0, e2_0, _, w2_0⟩ := DataW.trod_int Tryd.underlying47 g2_0
  simp at e2_0; subst e2_0
  obtain ⟨y2_1, g2_1⟩ := f2 1 _ rfl
  replace g2_1 : DataW.trod enc Tryd.prog W 0 (fun _ => true) true m2 47 [c2_1] = some y2_1 := g2_1
  obtain ⟨a2_1, e2_1, _, w2_1⟩ := DataW.trod_int Tryd.underlying47 g2_1
  simp at e2_1; subst e2_1
  obtain ⟨y2_2, g2_2⟩ := f2 2 _ rfl
  replace g2_2 : DataW.trod enc Tryd.prog W 0 (fun _ => true) true m2 5 [c2_2] = some y2_2 := g2_2
  obtain ⟨a2_2, e2_2, _, w2_2⟩ := DataW.trod_int Tryd.underlying5 g2_2
  simp at e2_2; subst e2_2
  refine (walk W (of_laid hL) a0 w0 a1 w1 a2_0 w2_0 a2_1 w2_1 a2_2 w2_2).mono fun e W' ⟨he, bel⟩ => ?_
  subst he
  exact ⟨_, rfl, _, _, _, [], _, [], hW', trodAll_mk1 (shut_bool Tryd.underlying4 _), (trodAll_cons_mk (Below.trod laidOut (by kernel_rfl) (of_decide_eq_true (by kernel_rfl)) k0 bel lt0) (trodAll_cons_mk (Below.trod laidOut (by kernel_rfl) (of_decide_eq_true (by kernel_rfl)) k1 bel lt1) (trodAll_cons_mk (Below.trod laidOut (by kernel_rfl) (of_decide_eq_true (by kernel_rfl)) k2 bel lt2) trodAll_mk0))), rfl, bel.frame _, fun h => by cases h⟩

theorem over : Rows.AmoValuesSaid :=
  OpenClaim.holds_of_wide 5 Tryd.f5 rfl rfl rfl rfl rfl rfl rfl ⟨rfl, rfl, rfl, rfl, rfl⟩ rfl rfl rfl rfl rfl (by kernel_rfl) Tryd.func5 (by kernel_rfl)
    (of_decide_eq_true (by kernel_rfl)) (by unfold Func.isWrapper; first | (rw [if_pos (by decide +kernel)]; kernel_rfl) | (rw [if_neg (by decide +kernel)]; exact ⟨rfl, rfl⟩))
    (fun os started H enc _ => lifted os started H enc)

/-- The statement: the card, its listed variable tied to the program's text. -/
theorem proved : Rows.AmoValuesCardSaid :=
  Claim7.holds_tied_plain_at .later [] [.data] true (true, "31207531034b7620e56e914a189728be8f7cc7a00cfb548c6c1a0ec61e101d21") false
    over (fun _ h => by cases h) (by kernel_rfl) (fun _ h => by cases h) amoValues_row_tie rfl ⟨rfl, rfl⟩ (by kernel_rfl) rfl
    (fun f fn hf hfn => by
      obtain rfl : f = 5 := Option.some.inj ((show Tryd.prog.funcNamed "suzerain/suzerainlaw08.AmoValues" = some 5 by kernel_rfl).symm.trans hf) |>.symm
      obtain rfl : fn = Tryd.f5 := (Option.some.inj (Tryd.func5.symm.trans hfn)).symm
      exact ⟨by kernel_rfl, fun j t ht => by
        rw [Tryd.params5] at ht
        have hm : t ∈ [22, 22, 49] := by simpa using Array.mem_of_getElem? ht
        have hall : ([22, 22, 49].all fun u => !Tryd.prog.wantsStandIn u) = true := by kernel_rfl
        exact (show Tryd.prog.wantsStandIn t = false by simpa using List.all_eq_true.1 hall t hm)⟩)
    (by kernel_rfl)
#print axioms proved

end Go.Proofs.YtaanmebebapbpaaDoor.amoValues
