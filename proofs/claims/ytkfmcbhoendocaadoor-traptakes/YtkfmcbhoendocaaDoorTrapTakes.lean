/-
  Proved: for any registers and privilege, the law TrapTakes returns true: an interrupt is taken just if it is there, is enabled, and is let; the software's comes first; what is taken wakes.
  Conditions: none beyond the statement's own (its listed variable is tied to the program's text).
-/
import Derived.Test.YtkfmcbhoendocaaDoorRows
import Derived.Test.YtkfmcbhoendocaaDoorCards
import Derived.Test.YtkfmcbhoendocaaDoorTie
import Derived.Test.YtkfmcbhoendocaaDoorLayO
import Derived.Lib.Hide
import Derived.SevenTiedAt
import Derived.Deep.RegionHeld3
import Derived.Test.YtkfmcbhoendocaaDoorTrDoor
import Derived.Test.YtkfmcbhoendocaaDoorTrLw
namespace Go.Proofs.YtkfmcbhoendocaaDoor.trapTakes
open Go Go.ChangeShapes Go.WideShapes Go.ChangeAt Go.RowKit W M D A C J
set_option linter.unusedVariables false
set_option linter.unusedSimpArgs false

set_option maxRecDepth 100000 in
set_option maxHeartbeats 40000000 in
theorem walk (w : World) (hL : Ints w) (a0_0 : Int) (w0_0 : (Lit.int .u64 a0_0).wf = true) (a0_1 : Int) (w0_1 : (Lit.int .u64 a0_1).wf = true) (a0_2 : Int) (w0_2 : (Lit.int .u64 a0_2).wf = true) (a0_3 : Int) (w0_3 : (Lit.int .u64 a0_3).wf = true) (a0_4 : Int) (w0_4 : (Lit.int .u64 a0_4).wf = true) (a0_5 : Int) (w0_5 : (Lit.int .u64 a0_5).wf = true) (a0_6 : Int) (w0_6 : (Lit.int .u64 a0_6).wf = true) (a0_7 : Int) (w0_7 : (Lit.int .u64 a0_7).wf = true) (a0_8 : Int) (w0_8 : (Lit.int .u64 a0_8).wf = true) (a0_9 : Int) (w0_9 : (Lit.int .u64 a0_9).wf = true) (a0_10 : Int) (w0_10 : (Lit.int .u64 a0_10).wf = true) (a0_11 : Int) (w0_11 : (Lit.int .u64 a0_11).wf = true) (a1_0 : Int) (w1_0 : (Lit.int .i64 a1_0).wf = true) (a1_1 : Int) (w1_1 : (Lit.int .i64 a1_1).wf = true) (a1_2 : Int) (w1_2 : (Lit.int .u64 a1_2).wf = true) (a1_3 : Int) (w1_3 : (Lit.int .u64 a1_3).wf = true) (a1_4 : Bool) :
    Calls Tryd.prog 5 #[.agg #[.int .u64 a0_0, .int .u64 a0_1, .int .u64 a0_2, .int .u64 a0_3, .int .u64 a0_4, .int .u64 a0_5, .int .u64 a0_6, .int .u64 a0_7, .int .u64 a0_8, .int .u64 a0_9, .int .u64 a0_10, .int .u64 a0_11], .agg #[.int .i64 a1_0, .int .i64 a1_1, .int .u64 a1_2, .int .u64 a1_3, .bool a1_4]] w fun e w' => e = .returned (.bool true) ∧ Below w.heap.size w w' := by
  have hc : C.Good [a0_0, a0_1, a0_2, a0_3, a0_4, a0_5, a0_6, a0_7, a0_8, a0_9, a0_10, a0_11] := good12 (bounds_u64 w0_0) (bounds_u64 w0_1) (bounds_u64 w0_2) (bounds_u64 w0_3) (bounds_u64 w0_4) (bounds_u64 w0_5) (bounds_u64 w0_6) (bounds_u64 w0_7) (bounds_u64 w0_8) (bounds_u64 w0_9) (bounds_u64 w0_10) (bounds_u64 w0_11)
  have hp := bounds_i64 w1_0
  have PE := Lib.hid (fun W (h : w.grownBy W none) => Pending_c _ hc a1_0 hp W (hL.grown h))
  have WK := Lib.hid (fun W (h : w.grownBy W none) => Wakes_c _ hc W (hL.grown h))
  have h0 : B64 a0_0 := hc.get 0
  have h1 : B64 a0_1 := hc.get 1
  have h8 : B64 a0_8 := hc.get 8
  rw [show gC [a0_0, a0_1, a0_2, a0_3, a0_4, a0_5, a0_6, a0_7, a0_8, a0_9, a0_10, a0_11] 0 = a0_0 from rfl, show bothV [a0_0, a0_1, a0_2, a0_3, a0_4, a0_5, a0_6, a0_7, a0_8, a0_9, a0_10, a0_11] = andV a0_8 a0_1 from rfl] at PE
  rw [show bothV [a0_0, a0_1, a0_2, a0_3, a0_4, a0_5, a0_6, a0_7, a0_8, a0_9, a0_10, a0_11] = andV a0_8 a0_1 from rfl] at WK
  rw [vC_12] at PE WK
  have HB := and_bd h8 h1
  have RC := Lib.hid ((Row.fresh w 24 (lC [a0_0, a0_1, a0_2, a0_3, a0_4, a0_5, a0_6, a0_7, a0_8, a0_9, a0_10, a0_11])).alloc (.cells #[.int .i64 a1_0, .int .i64 a1_1, .int .u64 a1_2, .int .u64 a1_3, .bool a1_4] 26))
  have RT := Lib.hid (freshB w (.cells (lC [a0_0, a0_1, a0_2, a0_3, a0_4, a0_5, a0_6, a0_7, a0_8, a0_9, a0_10, a0_11]).toArray 24) 26 [.int .i64 a1_0, .int .i64 a1_1, .int .u64 a1_2, .int .u64 a1_3, .bool a1_4])
  have G0 := Lib.hid (gr_alloc (gr_alloc (gr_refl w none) (.cells (lC [a0_0, a0_1, a0_2, a0_3, a0_4, a0_5, a0_6, a0_7, a0_8, a0_9, a0_10, a0_11]).toArray 24)) (.cells #[.int .i64 a1_0, .int .i64 a1_1, .int .u64 a1_2, .int .u64 a1_3, .bool a1_4] 26))
  clear w0_0 w0_1 w0_2 w0_3 w0_4 w0_5 w0_6 w0_7 w0_8 w0_9 w0_10 w0_11 w1_0 w1_1 w1_2 w1_3 hc hL
  have body : ∀ (s t l : Bool), onV (andV a0_8 a0_1) 2 = s → onV (andV a0_8 a0_1) 32 = t → letsV a0_0 a1_0 = l →
      Calls Tryd.prog 5 #[.agg #[.int .u64 a0_0, .int .u64 a0_1, .int .u64 a0_2, .int .u64 a0_3, .int .u64 a0_4, .int .u64 a0_5, .int .u64 a0_6, .int .u64 a0_7, .int .u64 a0_8, .int .u64 a0_9, .int .u64 a0_10, .int .u64 a0_11], .agg #[.int .i64 a1_0, .int .i64 a1_1, .int .u64 a1_2, .int .u64 a1_3, .bool a1_4]] w fun e w' => e = .returned (.bool true) ∧ Below w.heap.size w w' := by
    intro s t l es et el
    have EL := Lib.hid el
    have EA : anyV (andV a0_8 a0_1) = (s || t) := by unfold anyV; rw [es, et]
    have ET : takesV a0_0 (andV a0_8 a0_1) a1_0 = (l && (s || t)) := by unfold takesV; rw [EA, el]
    have EV : takeV a0_0 (andV a0_8 a0_1) a1_0 = (if l = true then if s = true then 1 else if t = true then 5 else 0 else 0) := by unfold takeV firstV; rw [es, et, el]
    rw [ET, EV] at PE
    rw [EA] at WK
    have d2 : (bits .and .u64 (bits .and .u64 a0_8 a0_1) 2 != 0) = s := es
    have d32 : (bits .and .u64 (bits .and .u64 a0_8 a0_1) 32 != 0) = t := et
    clear EA ET EV es et el
    unfold B64 at h0 h1 h8 HB
    unfold andV at HB
    unfold vI at PE
    have EL3 : (a1_0 = 0 ∧ l = true) ∨ (a1_0 = 1 ∧ (bits .and .u64 a0_0 2 != 0) = l) ∨ (a1_0 ≠ 0 ∧ a1_0 ≠ 1 ∧ l = false) := by
      have e := EL.out
      unfold letsV at e
      by_cases e0 : a1_0 = 0
      · rw [if_pos e0] at e; exact Or.inl ⟨e0, e.symm⟩
      · rw [if_neg e0] at e
        by_cases e1 : a1_0 = 1
        · rw [if_pos e1] at e; exact Or.inr (Or.inl ⟨e1, e⟩)
        · rw [if_neg e1] at e; exact Or.inr (Or.inr ⟨e0, e1, e.symm⟩)
    clear EL
    rcases EL3 with ⟨rfl, rfl⟩ | ⟨rfl, e1⟩ | ⟨e0, e1, rfl⟩ <;> cases s <;> cases t <;> (try cases l)
    all_goals
      simp only [Bool.true_and, Bool.false_and, Bool.or_false, Bool.false_or, Bool.true_or, Bool.or_true, reduceIte, Bool.false_eq_true] at PE WK
      go_enter Tryd.func5, Tryd.ntmps5
      go_wp2_with fail
      refine (shown14_c _).mono ?_
      rintro e w1 ⟨rfl, hG⟩
      have RC1 := Row.grown RC.out hG (by simp)
      have RT1 := Row.grown RT.out hG (by simp)
      have GW := gr_trans G0.out hG
      clear RC RT G0 hG
      obtain ⟨q, hq⟩ : ∃ q, w.heap.size = q := ⟨_, rfl⟩
      rw [hq] at RC1 RT1 ⊢
      clear hq
      obtain ⟨k0, k1, k2, k3, k4, k5, k6, k7, k8, k9, k10, k11⟩ := cells12 RC1
      obtain ⟨t0, t1, t2, t3, t4⟩ := cells5 RT1
      go_wp2_with fail
      refine (PE.out _ GW).mono ?_
      rintro e w2 ⟨rfl, hG⟩
      clear k0 k1 k2 k3 k4 k5 k6 k7 k8 k9 k10 k11 t0 t1 t2 t3 t4 PE
      replace RC1 := Row.grown RC1 hG (by simp)
      replace RT1 := Row.grown RT1 hG (by simp)
      replace GW := gr_trans GW hG
      clear hG
      obtain ⟨k0, k1, k2, k3, k4, k5, k6, k7, k8, k9, k10, k11⟩ := cells12 RC1
      obtain ⟨t0, t1, t2, t3, t4⟩ := cells5 RT1
      go_wp2_with fail
      iterate 2 try (
        refine (WK.out _ GW).mono ?_
        rintro e w3 ⟨rfl, hG⟩
        replace RC1 := Row.grown RC1 hG (by simp)
        replace RT1 := Row.grown RT1 hG (by simp)
        replace GW := gr_trans GW hG
        clear hG k0 k1 k2 k3 k4 k5 k6 k7 k8 k9 k10 k11 t0 t1 t2 t3 t4
        obtain ⟨k0, k1, k2, k3, k4, k5, k6, k7, k8, k9, k10, k11⟩ := cells12 RC1
        obtain ⟨t0, t1, t2, t3, t4⟩ := cells5 RT1
        go_wp2_with fail
      )
      go_ret
      exact ⟨rfl, gr_below GW⟩
  exact body _ _ _ rfl rfl rfl

theorem own : ownKnob Tryd.prog.godebug = none := by kernel_rfl
theorem laidOut : laidOutB Tryd.prog = true := by kernel_rfl

set_option maxRecDepth 100000 in
theorem lifted (os : Os) (started : os.Started) (H : Type) (enc : TypeId × Value → H) :
    ReturnsInHanded {} Tryd.checked os 5 .any (fun w args => (Rows.trapTakesSpec.pre enc Tryd.prog Tryd.f5 [] false w args ∧ laidMetH Tryd.prog laidL w) ∧ sizedMet enc Tryd.prog Tryd.f5 (OpenSpec.ofChange Rows.trapTakesSpec) false w args)
      (Rows.trapTakesSpec.post enc Tryd.prog Tryd.f5 false true false false) := by
  refine returnsInHanded_of_change_and (C := Tryd.checked) (X := fun w _ => laidMetH Tryd.prog laidL w) (fun _ _ _ hh h => h.of_heap hh) own started (by kernel_rfl) Tryd.func5
    (ChangeSpec.witness_shaped (enc := enc) (C := Tryd.checked) (os := os) (X := fun w _ => laidMetH Tryd.prog laidL w) false (World.doorLaid Tryd.prog 400 os) #[.agg #[.int .u64 0, .int .u64 0, .int .u64 0, .int .u64 0, .int .u64 0, .int .u64 0, .int .u64 0, .int .u64 0, .int .u64 0, .int .u64 0, .int .u64 0, .int .u64 0], .agg #[.int .i64 0, .int .i64 0, .int .u64 0, .int .u64 0, .bool false]] 8 rfl (World.shaped_of_RefB (by kernel_rfl) (by kernel_rfl)) (by kernel_rfl) (by kernel_rfl) (by kernel_rfl) (door_met os _)) ?_
  intro W base args ds gs before hval0 hW _ _ hL _
  have hval : ∀ (j : Nat) t v, Tryd.f5.params[j]? = some t → args[j]? = some v → Value.okWide Tryd.prog W .any base t v := hval0
  have hW' := hW
  obtain ⟨p, q, hA0, hV, rfl, hfz, hnd⟩ := hW
  have hA : DataW.TrodAll enc Tryd.prog W 0 (fun _ => true) true Tryd.f5.params.toList args.toList ds p := hA0
  rw [Tryd.params5] at hA hval
  obtain ⟨v0, vs0, d0, ds0, p0, q0, hargs, rfl, rfl, h0, r0⟩ := trodAll_cons hA
  obtain ⟨v1, vs1, d1, ds1, p1, q1, rfl, rfl, rfl, h1, r1⟩ := trodAll_cons r0
  obtain ⟨rfl, rfl, rfl⟩ := trodAll_nil r1
  obtain rfl : args = #[v0, v1] := by cases args; simp_all
  obtain ⟨rfl, rfl⟩ := trodVars_none hV
  clear hA0 hval0 hA
  have k0 := h0
  have lt0 : ∀ x ∈ p0, x.block < W.heap.size := by obtain ⟨m, hm⟩ := k0; exact DataW.trod_lt m _ _ _ hm
  obtain ⟨xs0, rfl, l0, m0, f0⟩ := Op.open_struct Tryd.underlying24 (hval 0 24 v0 rfl rfl) h0
  rw [show Tryd.prog.cellsOf 24 = 12 from by kernel_rfl] at l0
  obtain _ | ⟨c0_0, xs0⟩ := xs0
  · simp at l0
  obtain _ | ⟨c0_1, xs0⟩ := xs0
  · simp at l0
  obtain _ | ⟨c0_2, xs0⟩ := xs0
  · simp at l0
  obtain _ | ⟨c0_3, xs0⟩ := xs0
  · simp at l0
  obtain _ | ⟨c0_4, xs0⟩ := xs0
  · simp at l0
  obtain _ | ⟨c0_5, xs0⟩ := xs0
  · simp at l0
  obtain _ | ⟨c0_6, xs0⟩ := xs0
  · simp at l0
  obtain _ | ⟨c0_7, xs0⟩ := xs0
  · simp at l0
  obtain _ | ⟨c0_8, xs0⟩ := xs0
  · simp at l0
  obtain _ | ⟨c0_9, xs0⟩ := xs0
  · simp at l0
  obtain _ | ⟨c0_10, xs0⟩ := xs0
  · simp at l0
  obtain _ | ⟨c0_11, xs0⟩ := xs0
  · simp at l0
  obtain _ | ⟨_, _⟩ := xs0
  rotate_left
  · simp at l0
  clear h0
  obtain ⟨y0_0, g0_0⟩ := f0 0 _ rfl
  replace g0_0 : DataW.trod enc Tryd.prog W 0 (fun _ => true) true m0 22 [c0_0] = some y0_0 := g0_0
  obtain ⟨a0_0, e0_0, _, w0_0⟩ := DataW.trod_int Tryd.underlying22 g0_0
  simp at e0_0; subst e0_0
  obtain ⟨y0_1, g0_1⟩ := f0 1 _ rfl
  replace g0_1 : DataW.trod enc Tryd.prog W 0 (fun _ => true) true m0 22 [c0_1] = some y0_1 := g0_1
  obtain ⟨a0_1, e0_1, _, w0_1⟩ := DataW.trod_int Tryd.underlying22 g0_1
  simp at e0_1; subst e0_1
  obtain ⟨y0_2, g0_2⟩ := f0 2 _ rfl
  replace g0_2 : DataW.trod enc Tryd.prog W 0 (fun _ => true) true m0 22 [c0_2] = some y0_2 := g0_2
  obtain ⟨a0_2, e0_2, _, w0_2⟩ := DataW.trod_int Tryd.underlying22 g0_2
  simp at e0_2; subst e0_2
  obtain ⟨y0_3, g0_3⟩ := f0 3 _ rfl
  replace g0_3 : DataW.trod enc Tryd.prog W 0 (fun _ => true) true m0 22 [c0_3] = some y0_3 := g0_3
  obtain ⟨a0_3, e0_3, _, w0_3⟩ := DataW.trod_int Tryd.underlying22 g0_3
  simp at e0_3; subst e0_3
  obtain ⟨y0_4, g0_4⟩ := f0 4 _ rfl
  replace g0_4 : DataW.trod enc Tryd.prog W 0 (fun _ => true) true m0 22 [c0_4] = some y0_4 := g0_4
  obtain ⟨a0_4, e0_4, _, w0_4⟩ := DataW.trod_int Tryd.underlying22 g0_4
  simp at e0_4; subst e0_4
  obtain ⟨y0_5, g0_5⟩ := f0 5 _ rfl
  replace g0_5 : DataW.trod enc Tryd.prog W 0 (fun _ => true) true m0 22 [c0_5] = some y0_5 := g0_5
  obtain ⟨a0_5, e0_5, _, w0_5⟩ := DataW.trod_int Tryd.underlying22 g0_5
  simp at e0_5; subst e0_5
  obtain ⟨y0_6, g0_6⟩ := f0 6 _ rfl
  replace g0_6 : DataW.trod enc Tryd.prog W 0 (fun _ => true) true m0 22 [c0_6] = some y0_6 := g0_6
  obtain ⟨a0_6, e0_6, _, w0_6⟩ := DataW.trod_int Tryd.underlying22 g0_6
  simp at e0_6; subst e0_6
  obtain ⟨y0_7, g0_7⟩ := f0 7 _ rfl
  replace g0_7 : DataW.trod enc Tryd.prog W 0 (fun _ => true) true m0 22 [c0_7] = some y0_7 := g0_7
  obtain ⟨a0_7, e0_7, _, w0_7⟩ := DataW.trod_int Tryd.underlying22 g0_7
  simp at e0_7; subst e0_7
  obtain ⟨y0_8, g0_8⟩ := f0 8 _ rfl
  replace g0_8 : DataW.trod enc Tryd.prog W 0 (fun _ => true) true m0 22 [c0_8] = some y0_8 := g0_8
  obtain ⟨a0_8, e0_8, _, w0_8⟩ := DataW.trod_int Tryd.underlying22 g0_8
  simp at e0_8; subst e0_8
  obtain ⟨y0_9, g0_9⟩ := f0 9 _ rfl
  replace g0_9 : DataW.trod enc Tryd.prog W 0 (fun _ => true) true m0 22 [c0_9] = some y0_9 := g0_9
  obtain ⟨a0_9, e0_9, _, w0_9⟩ := DataW.trod_int Tryd.underlying22 g0_9
  simp at e0_9; subst e0_9
  obtain ⟨y0_10, g0_10⟩ := f0 10 _ rfl
  replace g0_10 : DataW.trod enc Tryd.prog W 0 (fun _ => true) true m0 22 [c0_10] = some y0_10 := g0_10
  obtain ⟨a0_10, e0_10, _, w0_10⟩ := DataW.trod_int Tryd.underlying22 g0_10
  simp at e0_10; subst e0_10
  obtain ⟨y0_11, g0_11⟩ := f0 11 _ rfl
  replace g0_11 : DataW.trod enc Tryd.prog W 0 (fun _ => true) true m0 22 [c0_11] = some y0_11 := g0_11
  obtain ⟨a0_11, e0_11, _, w0_11⟩ := DataW.trod_int Tryd.underlying22 g0_11
  simp at e0_11; subst e0_11
  have k1 := h1
  have lt1 : ∀ x ∈ p1, x.block < W.heap.size := by obtain ⟨m, hm⟩ := k1; exact DataW.trod_lt m _ _ _ hm
  obtain ⟨xs1, rfl, l1, m1, f1⟩ := Op.open_struct Tryd.underlying26 (hval 1 26 v1 rfl rfl) h1
  rw [show Tryd.prog.cellsOf 26 = 5 from by kernel_rfl] at l1
  obtain _ | ⟨c1_0, xs1⟩ := xs1
  · simp at l1
  obtain _ | ⟨c1_1, xs1⟩ := xs1
  · simp at l1
  obtain _ | ⟨c1_2, xs1⟩ := xs1
  · simp at l1
  obtain _ | ⟨c1_3, xs1⟩ := xs1
  · simp at l1
  obtain _ | ⟨c1_4, xs1⟩ := xs1
  · simp at l1
  obtain _ | ⟨_, _⟩ := xs1
  rotate_left
  · simp at l1
  clear h1
  obtain ⟨y1_0, g1_0⟩ := f1 0 _ rfl
  replace g1_0 : DataW.trod enc Tryd.prog W 0 (fun _ => true) true m1 3 [c1_0] = some y1_0 := g1_0
  obtain ⟨a1_0, e1_0, _, w1_0⟩ := DataW.trod_int Tryd.underlying3 g1_0
  simp at e1_0; subst e1_0
  obtain ⟨y1_1, g1_1⟩ := f1 1 _ rfl
  replace g1_1 : DataW.trod enc Tryd.prog W 0 (fun _ => true) true m1 3 [c1_1] = some y1_1 := g1_1
  obtain ⟨a1_1, e1_1, _, w1_1⟩ := DataW.trod_int Tryd.underlying3 g1_1
  simp at e1_1; subst e1_1
  obtain ⟨y1_2, g1_2⟩ := f1 2 _ rfl
  replace g1_2 : DataW.trod enc Tryd.prog W 0 (fun _ => true) true m1 22 [c1_2] = some y1_2 := g1_2
  obtain ⟨a1_2, e1_2, _, w1_2⟩ := DataW.trod_int Tryd.underlying22 g1_2
  simp at e1_2; subst e1_2
  obtain ⟨y1_3, g1_3⟩ := f1 3 _ rfl
  replace g1_3 : DataW.trod enc Tryd.prog W 0 (fun _ => true) true m1 22 [c1_3] = some y1_3 := g1_3
  obtain ⟨a1_3, e1_3, _, w1_3⟩ := DataW.trod_int Tryd.underlying22 g1_3
  simp at e1_3; subst e1_3
  obtain ⟨y1_4, g1_4⟩ := f1 4 _ rfl
  replace g1_4 : DataW.trod enc Tryd.prog W 0 (fun _ => true) true m1 4 [c1_4] = some y1_4 := g1_4
  obtain ⟨a1_4, e1_4, _⟩ := DataW.trod_bool Tryd.underlying4 g1_4
  simp at e1_4; subst e1_4
  refine (walk W (of_laid hL) a0_0 w0_0 a0_1 w0_1 a0_2 w0_2 a0_3 w0_3 a0_4 w0_4 a0_5 w0_5 a0_6 w0_6 a0_7 w0_7 a0_8 w0_8 a0_9 w0_9 a0_10 w0_10 a0_11 w0_11 a1_0 w1_0 a1_1 w1_1 a1_2 w1_2 a1_3 w1_3 a1_4).mono fun e W' ⟨he, bel⟩ => ?_
  subst he
  exact ⟨_, rfl, _, _, _, [], _, [], hW', trodAll_mk1 (shut_bool Tryd.underlying4 _), (trodAll_cons_mk (Below.trod laidOut (by kernel_rfl) (of_decide_eq_true (by kernel_rfl)) k0 bel lt0) (trodAll_cons_mk (Below.trod laidOut (by kernel_rfl) (of_decide_eq_true (by kernel_rfl)) k1 bel lt1) trodAll_mk0)), rfl, bel.frame _, fun h => by cases h⟩

theorem over : Rows.TrapTakesSaid :=
  OpenClaim.holds_of_wide 5 Tryd.f5 rfl rfl rfl rfl rfl rfl rfl ⟨rfl, rfl, rfl, rfl, rfl⟩ rfl rfl rfl rfl rfl (by kernel_rfl) Tryd.func5 (by kernel_rfl)
    (of_decide_eq_true (by kernel_rfl)) (by unfold Func.isWrapper; first | (rw [if_pos (by decide +kernel)]; kernel_rfl) | (rw [if_neg (by decide +kernel)]; exact ⟨rfl, rfl⟩))
    (fun os started H enc _ => lifted os started H enc)

/-- The statement: the card, its listed variable tied to the program's text. -/
theorem proved : Rows.TrapTakesCardSaid :=
  Claim7.holds_tied_plain_at .later [] [.data] true (true, "8e6e553f6c7ced0dfb6e7eaba441bf0be50b2fff110c9f9a613823ef96ea14d8") false
    over (fun _ h => by cases h) (by kernel_rfl) (fun _ h => by cases h) trapTakes_row_tie rfl ⟨rfl, rfl⟩ (by kernel_rfl) rfl
    (fun f fn hf hfn => by
      obtain rfl : f = 5 := Option.some.inj ((show Tryd.prog.funcNamed "suzerain/suzerainlaw14.TrapTakes" = some 5 by kernel_rfl).symm.trans hf) |>.symm
      obtain rfl : fn = Tryd.f5 := (Option.some.inj (Tryd.func5.symm.trans hfn)).symm
      exact ⟨by kernel_rfl, fun j t ht => by
        rw [Tryd.params5] at ht
        have hm : t ∈ [24, 26] := by simpa using Array.mem_of_getElem? ht
        have hall : ([24, 26].all fun u => !Tryd.prog.wantsStandIn u) = true := by kernel_rfl
        exact (show Tryd.prog.wantsStandIn t = false by simpa using List.all_eq_true.1 hall t hm)⟩)
    (by kernel_rfl)
#print axioms proved

end Go.Proofs.YtkfmcbhoendocaaDoor.trapTakes
