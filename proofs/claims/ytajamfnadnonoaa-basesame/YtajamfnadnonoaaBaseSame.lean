/-
  Proved: for any function and any two numbers, the law BaseSame returns true: a call tells the same whenever it is made; its number does not matter but for what is asked about an extension; functions beyond are not there.
  Conditions: none beyond the statement's own.
-/
import Derived.Test.YtajamfnadnonoaaRows
import Derived.Test.YtajamfnadnonoaaLayO
import Derived.Test.YtajamfnadnonoaaBaseC
import Derived.Deep.Cut
namespace Go.Proofs.Ytajamfnadnonoaa.baseSame
open Go Go.ChangeShapes Go.WideShapes Go.ChangeAt Go.RowKit M Bs
set_option linter.unusedVariables false
set_option linter.unusedSimpArgs false

set_option maxRecDepth 100000 in
set_option maxHeartbeats 2000000 in
theorem walk (w : World) (a0 : Int) (w0 : (Lit.int .u64 a0).wf = true) (a1_0 : Int) (w1_0 : (Lit.int .u64 a1_0).wf = true) (a1_1 : Int) (w1_1 : (Lit.int .u64 a1_1).wf = true) :
    Calls Try.prog 3 #[.int .u64 a0, .agg #[.int .u64 a1_0, .int .u64 a1_1]] w fun e w' => e = .returned (.bool true) ∧ Below w.heap.size w w' := by
  have h0 := bounds_u64 w0
  have h1 := bounds_u64 w1_0
  have h2 := bounds_u64 w1_1
  clear w0 w1_0 w1_1
  have C0 := Lib.hid (fun W => Call_c a0 a1_0 h0 h1 W)
  have C1 := Lib.hid (fun W => Call_c a0 a1_1 h0 h2 W)
  have hc : a0 = 0 ∨ a0 = 1 ∨ a0 = 2 ∨ a0 = 3 ∨ a0 = 4 ∨ a0 = 5 ∨ a0 = 6 ∨ 6 < a0 := by omega
  have body : ∀ e x y : Int, callV a0 a1_0 = (e, x) → callV a0 a1_1 = (e, y) → 0 ≤ x → x ≤ 18446744073709551615 →
      ((6 < a0 ∧ e = -2 ∧ x = 0) ∨ (a0 = 3 ∧ e = 0 ∧ x ≤ 1) ∨ (a0 ≤ 6 ∧ a0 ≠ 3 ∧ e = 0 ∧ x = y ∧ (a0 < 4 ∨ x = 0))) →
      Calls Try.prog 3 #[.int .u64 a0, .agg #[.int .u64 a1_0, .int .u64 a1_1]] w fun e w' => e = .returned (.bool true) ∧ Below w.heap.size w w' := by
    intro e x y V0 V1 hx0 hx1 hh
    rw [V0] at C0
    rw [V1] at C1
    clear V0 V1
    have HH := Lib.hid hh
    clear hh hc
    go_enter Try.func3, Try.ntmps3
    go_upto_region 1 with (fail)
    have hr := Row.fresh w 23 [.int .u64 a1_0, .int .u64 a1_1]
    have hg := gr_alloc (gr_refl w none) (.cells #[.int .u64 a1_0, .int .u64 a1_1] 23)
    generalize w.alloc (.cells #[.int .u64 a1_0, .int .u64 a1_1] 23) = V at *
    generalize w.heap.size = q at *
    have HR := Lib.hid (And.intro hr hg)
    clear hr hg
    go_wp2_with fail
    refine (shown17_c _).mono ?_
    rintro e1 w1 ⟨rfl, hG⟩
    have HR1 := Lib.hid (And.intro (HR.out.1.grown hG (by simp)) (gr_trans HR.out.2 hG))
    have k0 : w1.cell? ⟨q, 0, none⟩ = some (.int .u64 a1_0) := HR1.out.1.cell 0
    have lt0 := HR1.out.1.lt
    clear hG HR
    go_wp2_with fail
    refine (C0.out _).mono ?_
    rintro e1 w2 ⟨rfl, hG⟩
    clear k0 lt0
    have HR2 := Lib.hid (And.intro (HR1.out.1.grown hG (by simp)) (gr_trans HR1.out.2 hG))
    have k1 : w2.cell? ⟨q, 1, none⟩ = some (.int .u64 a1_1) := HR2.out.1.cell 1
    have lt0 := HR2.out.1.lt
    clear hG HR1
    go_wp2_with fail
    refine (C1.out _).mono ?_
    rintro e1 w3 ⟨rfl, hG⟩
    clear k1 lt0
    have HR3 := Lib.hid (And.intro (HR2.out.1.grown hG (by simp)) (gr_trans HR2.out.2 hG))
    have k0 : w3.cell? ⟨q, 0, none⟩ = some (.int .u64 a1_0) := HR3.out.1.cell 0
    have lt0 := HR3.out.1.lt
    clear hG HR2
    go_wp2_with fail
    refine (C0.out _).mono ?_
    rintro e1 w4 ⟨rfl, hG⟩
    clear k0 lt0
    have HR4 := Lib.hid (gr_below (gr_trans HR3.out.2 hG))
    clear hG HR3 C0 C1
    have ee : (e != e) = false := by simp
    have xx : (x != x) = false := by simp
    rcases HH.out with ⟨h6, rfl, rfl⟩ | ⟨rfl, rfl, hle⟩ | ⟨h6, h3, rfl, rfl, h4⟩
    · clear HH
      go_wp2_with fail
      go_ret
      exact ⟨rfl, HR4.out⟩
    · clear HH
      go_wp2_with fail
      go_ret
      exact ⟨rfl, HR4.out⟩
    · have b3 : (a0 == 3) = false := by simpa using h3
      have b4 : (a0 != 3) = true := by simpa using h3
      have yy : (x == x) = true := by simp
      clear HH h3
      by_cases h5 : a0 < 4
      · clear h4
        go_wp2_with fail
        go_ret
        exact ⟨rfl, HR4.out⟩
      · have h7 : x = 0 := by omega
        subst h7
        clear h4
        go_wp2_with fail
        go_ret
        exact ⟨rfl, HR4.out⟩
  have one : ∀ b, 0 ≤ oneV b ∧ oneV b ≤ 1 := by intro b; cases b <;> decide
  rcases hc with rfl | rfl | rfl | rfl | rfl | rfl | rfl | h6
  · exact body _ _ _ rfl rfl (by decide) (by decide) (Or.inr (Or.inr ⟨by decide, by decide, rfl, rfl, Or.inl (by decide)⟩))
  · exact body _ _ _ rfl rfl (by decide) (by decide) (Or.inr (Or.inr ⟨by decide, by decide, rfl, rfl, Or.inl (by decide)⟩))
  · exact body _ _ _ rfl rfl (by decide) (by decide) (Or.inr (Or.inr ⟨by decide, by decide, rfl, rfl, Or.inl (by decide)⟩))
  · exact body _ _ _ (call_three _) (call_three _) (one _).1 (by have := (one (knownV a1_0)).2; omega) (Or.inr (Or.inl ⟨rfl, rfl, (one _).2⟩))
  · exact body _ _ _ rfl rfl (by decide) (by decide) (Or.inr (Or.inr ⟨by decide, by decide, rfl, rfl, Or.inr rfl⟩))
  · exact body _ _ _ rfl rfl (by decide) (by decide) (Or.inr (Or.inr ⟨by decide, by decide, rfl, rfl, Or.inr rfl⟩))
  · exact body _ _ _ rfl rfl (by decide) (by decide) (Or.inr (Or.inr ⟨by decide, by decide, rfl, rfl, Or.inr rfl⟩))
  · exact body _ _ _ (call_more h6) (call_more h6) (by decide) (by decide) (Or.inl ⟨h6, rfl, rfl⟩)

theorem own : ownKnob Try.prog.godebug = none := by kernel_rfl
theorem laidOut : laidOutB Try.prog = true := by kernel_rfl

set_option maxRecDepth 100000 in
theorem lifted (os : Os) (started : os.Started) (H : Type) (enc : TypeId × Value → H) :
    ReturnsInHanded {} Try.checked os 3 .any (Rows.baseSameSpec.pre6 enc Try.prog Try.f3 Rows.baseSameRow.domain false) (Rows.baseSameSpec.post enc Try.prog Try.f3 false true false false) := by
  refine returnsInHanded_of_change (C := Try.checked) own started (by kernel_rfl) Try.func3
    (ChangeSpec.witness6 (enc := enc) (C := Try.checked) false ⟨#[], #[.int .u64 0, .agg #[.int .u64 0, .int .u64 0]], []⟩ 8 (by kernel_rfl) (by kernel_rfl) (by kernel_rfl) (by kernel_rfl)) ?_
  intro W base args ds gs before hval0 hW hcnd _
  have hval : ∀ (j : Nat) t v, Try.f3.params[j]? = some t → args[j]? = some v → Value.okWide Try.prog W .any base t v := hval0
  have hW' := hW
  obtain ⟨p, q, hA0, hV, rfl, hfz, hnd⟩ := hW
  have hA : DataW.TrodAll enc Try.prog W 0 (fun _ => true) true Try.f3.params.toList args.toList ds p := hA0
  rw [Try.params3] at hA hval
  obtain ⟨v0, vs0, d0, ds0, p0, q0, hargs, rfl, rfl, h0, r0⟩ := trodAll_cons hA
  obtain ⟨v1, vs1, d1, ds1, p1, q1, rfl, rfl, rfl, h1, r1⟩ := trodAll_cons r0
  obtain ⟨rfl, rfl, rfl⟩ := trodAll_nil r1
  obtain rfl : args = #[v0, v1] := by cases args; simp_all
  obtain ⟨rfl, rfl⟩ := trodVars_none hV
  clear hA0 hval0 hA
  have k0 := h0
  have lt0 : ∀ x ∈ p0, x.block < W.heap.size := by obtain ⟨m, hm⟩ := k0; exact DataW.trod_lt m _ _ _ hm
  obtain ⟨a0, rfl, rfl, rfl, w0⟩ := open_int Try.underlying22 (hval 0 22 v0 rfl rfl) h0
  have k1 := h1
  have lt1 : ∀ x ∈ p1, x.block < W.heap.size := by obtain ⟨m, hm⟩ := k1; exact DataW.trod_lt m _ _ _ hm
  obtain ⟨xs1, rfl, l1, w1⟩ := Op.open_arr_int Try.underlying23 Try.underlying22 (by kernel_rfl) (by kernel_rfl) (hval 1 23 v1 rfl rfl) h1
  obtain _ | ⟨a1_0, xs1⟩ := xs1
  · simp at l1
  obtain _ | ⟨a1_1, xs1⟩ := xs1
  · simp at l1
  obtain _ | ⟨_, _⟩ := xs1
  rotate_left
  · simp at l1
  clear h1
  simp only [List.map_cons, List.map_nil] at *
  have w1_0 := w1 a1_0 (by simp)
  have w1_1 := w1 a1_1 (by simp)
  refine (walk W a0 w0 a1_0 w1_0 a1_1 w1_1).mono fun e W' ⟨he, bel⟩ => ?_
  subst he
  exact ⟨_, rfl, _, _, _, [], _, [], hW', trodAll_mk1 (shut_bool Try.underlying4 _), (trodAll_cons_mk (Below.trod laidOut (by kernel_rfl) (of_decide_eq_true (by kernel_rfl)) k0 bel lt0) (trodAll_cons_mk (Below.trod laidOut (by kernel_rfl) (of_decide_eq_true (by kernel_rfl)) k1 bel lt1) trodAll_mk0)), rfl, bel.frame _, fun h => by cases h⟩

theorem over : Rows.baseSameRow.holds Try.pinned (OpenSpec.ofChange Rows.baseSameSpec) :=
  OpenClaim.holds_of_wide 3 Try.f3 rfl rfl rfl rfl rfl rfl rfl ⟨rfl, rfl, rfl, rfl, rfl⟩ rfl rfl rfl rfl rfl (by kernel_rfl) Try.func3 (by kernel_rfl)
    (of_decide_eq_true (by kernel_rfl)) (by unfold Func.isWrapper; first | (rw [if_pos (by decide +kernel)]; kernel_rfl) | (rw [if_neg (by decide +kernel)]; exact ⟨rfl, rfl⟩))
    (fun os started H enc _ => lifted os started H enc)

/-- The statement. -/
theorem proved : Rows.BaseSameSaid := over
#print axioms proved

end Go.Proofs.Ytajamfnadnonoaa.baseSame
