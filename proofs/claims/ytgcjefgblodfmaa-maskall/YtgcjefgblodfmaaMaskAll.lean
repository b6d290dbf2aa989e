/-
  Proved: for any mask, base and number of harts, and any harts (70 at most), the law MaskAll returns true: which harts a mask means, or that one is none, and the mask of harts, is as the document says.
  Conditions: none beyond the statement's own.
-/
import Derived.Test.YtgcjefgblodfmaaRows
import Derived.Test.YtgcjefgblodfmaaLayO
import Derived.Test.YtgcjefgblodfmaaMaskR
import Derived.Deep.Cut
namespace Go.Proofs.Ytgcjefgblodfmaa.maskAll
open Go Go.ChangeShapes Go.WideShapes Go.ChangeAt Go.RowKit W M A Mk
set_option linter.unusedVariables false
set_option linter.unusedSimpArgs false

theorem list_of {P : Nat → Int → Prop} : ∀ {m : Nat}, (∀ i, i < m → ∃ x, P i x) → ∃ l : List Int, l.length = m ∧ ∀ i, i < m → P i (l.getD i 0)
  | 0, _ => ⟨[], rfl, fun i hi => absurd hi (by omega)⟩
  | m + 1, h => by
    obtain ⟨l, hl, hp⟩ := list_of (m := m) (fun i hi => h i (by omega))
    obtain ⟨x, hx⟩ := h m (by omega)
    refine ⟨l ++ [x], by simp [hl], fun i hi => ?_⟩
    by_cases hm : i < m
    · have e : (l ++ [x]).getD i 0 = l.getD i 0 := by simp [List.getD, List.getElem?_append_left (show i < l.length by omega)]
      rw [e]; exact hp i hm
    · obtain rfl : i = m := by omega
      have e : (l ++ [x]).getD i 0 = x := by simp [List.getD, ← hl]
      rw [e]; exact hx
theorem sees_of {w : World} {A : Option Addr} {m c : Nat} (hc : m ≤ c) (el : ∀ i, i < m → ∃ ad, A = some ad ∧ ad.block < w.heap.size ∧ ∃ (x0 : Int), (w.cell? (ad.add (i * 1 + 0)) = some (.int .i64 x0) ∧ (Lit.int .i64 x0).wf = true)) :
    ∃ l : List Int, l.length = m ∧ Sees w (.slice A m c) l := by
  obtain ⟨l, hl, hp⟩ := list_of (P := fun i x => ∃ ad, A = some ad ∧ ad.block < w.heap.size ∧ w.cell? (ad.add i) = some (.int .i64 x)) (fun i hi => by
    obtain ⟨ad, e, hb, x, hx, -⟩ := el i hi
    rw [Nat.mul_one, Nat.add_zero] at hx
    exact ⟨x, ad, e, hb, hx⟩)
  exact ⟨l, hl, A, c, by rw [hl], by omega, fun i hi => hp i (by omega)⟩
set_option maxRecDepth 100000 in
set_option maxHeartbeats 2000000 in
theorem walk (w : World) (a0_0 : Int) (w0_0 : (Lit.int .u64 a0_0).wf = true) (a0_1 : Int) (w0_1 : (Lit.int .u64 a0_1).wf = true) (a1 : Int) (w1 : (Lit.int .i64 a1).wf = true) (A2 : Option Addr) (m2 c2 : Nat) (mc2 : m2 ≤ c2) (cc2 : c2 ≤ 9223372036854775807) (el2 : ∀ i, i < m2 → ∃ ad, A2 = some ad ∧ ad.block < w.heap.size ∧ ∃ (x0 : Int), (w.cell? (ad.add (i * 1 + 0)) = some (.int .i64 x0) ∧ (Lit.int .i64 x0).wf = true)) :
    Calls Try.prog 3 #[.agg #[.int .u64 a0_0, .int .u64 a0_1], .int .i64 a1, .slice A2 m2 c2] w fun e w' => e = .returned (.bool true) ∧ Below w.heap.size w w' := by
  have h0 := bounds_u64 w0_0
  have h1 := bounds_u64 w0_1
  have h2 := bounds_i64 w1
  clear w0_0 w0_1 w1
  obtain ⟨m, rfl⟩ : ∃ m : Nat, a0_0 = m := ⟨a0_0.toNat, by omega⟩
  obtain ⟨l, hl, hs⟩ := sees_of mc2 el2
  have HS := Lib.hid hs
  clear hs el2 hl mc2 cc2
  have C0 := Lib.hid (fun W => Harts_c m a0_1 a1 (by omega) h1 h2 W)
  have R0 := Lib.hid (fun W => rHarts_c m a0_1 a1 (by omega) h1 h2 W)
  have hl1 := ans_length m a0_1 a1
  generalize hartsV m a0_1 a1 = r at *
  obtain ⟨r1, r2⟩ := r
  have HL := Lib.hid (show r1.length ≤ 70 by simp only at hl1; omega)
  clear hl1
  go_enter Try.func3, Try.ntmps3
  go_upto_region 1 with (fail)
  have hr := Row.fresh w 23 [.int .u64 (m : Int), .int .u64 a0_1]
  have hg := gr_alloc (gr_refl w none) (.cells #[.int .u64 (m : Int), .int .u64 a0_1] 23)
  generalize w.alloc (.cells #[.int .u64 (m : Int), .int .u64 a0_1] 23) = V at *
  generalize w.heap.size = q at *
  have HR := Lib.hid (And.intro hr hg)
  have HS1 := Lib.hid (HS.out.kept hg)
  clear hr hg HS
  go_wp2_with fail
  refine (shown16_c _).mono ?_
  rintro e w1 ⟨rfl, hG⟩
  have HR1 := Lib.hid (And.intro (HR.out.1.grown hG (by simp)) (gr_trans HR.out.2 hG))
  have HS2 := Lib.hid (HS1.out.kept hG)
  have k0 : w1.cell? ⟨q, 0, none⟩ = some (.int .u64 (m : Int)) := HR1.out.1.cell 0
  have k1 : w1.cell? ⟨q, 1, none⟩ = some (.int .u64 a0_1) := HR1.out.1.cell 1
  clear hG HR HS1
  go_wp2_with fail
  refine (C0.out _).mono ?_
  rintro e w2 ⟨v1, rfl, hA, hG⟩
  clear k0 k1
  have HR2 := Lib.hid (And.intro (HR1.out.1.grown hG (by simp)) (gr_trans HR1.out.2 hG))
  have HS3 := Lib.hid (HS2.out.kept hG)
  have k0 : w2.cell? ⟨q, 0, none⟩ = some (.int .u64 (m : Int)) := HR2.out.1.cell 0
  have k1 : w2.cell? ⟨q, 1, none⟩ = some (.int .u64 a0_1) := HR2.out.1.cell 1
  obtain ⟨B1, d1, rfl⟩ := hA.form
  have HA := Lib.hid hA.sees
  clear hA hG HR1 HS2
  go_wp2_with fail
  refine (R0.out _).mono ?_
  rintro e w3 ⟨v2, rfl, hA, hG⟩
  clear k0 k1
  have HR3 := Lib.hid (gr_trans HR2.out.2 hG)
  have HS4 := Lib.hid (HS3.out.kept hG)
  obtain ⟨B2, d2, rfl⟩ := hA.form
  have HA1 := Lib.hid (HA.out.kept hG)
  have HA2 := Lib.hid hA.sees
  clear hA hG HR2 HS3 HA
  go_wp2_with fail
  refine (Same_c _ _ _ _ HL.out HL.out _ HA1.out HA2.out).mono ?_
  rintro e w4 ⟨rfl, hG⟩
  have HR4 := Lib.hid (gr_trans HR3.out hG)
  have HS5 := Lib.hid (HS4.out.kept hG)
  clear hG HR3 HS4 HA1 HA2
  rw [decide_eq_true rfl]
  have hrr : (r2 == r2) = true := by cases r2 <;> rfl
  have H70 := Lib.hid (show (l.take 70).length ≤ 70 by rw [List.length_take]; omega)
  go_wp2_with fail
  refine (short_c _ _ _ HS5.out).mono ?_
  rintro e w5 ⟨u1, rfl, hS1, rfl⟩
  have HT := Lib.hid hS1
  clear hS1
  go_wp2_with fail
  refine (Of_c _ _ H70.out _ HT.out).mono ?_
  rintro e w5 ⟨rfl, rfl⟩
  go_wp2_with fail
  refine (short_c _ _ _ HS5.out).mono ?_
  rintro e w5 ⟨u2, rfl, hS1, rfl⟩
  have HT2 := Lib.hid hS1
  clear hS1
  go_wp2_with fail
  refine (rOf_c _ _ H70.out _ HT2.out).mono ?_
  rintro e w5 ⟨rfl, rfl⟩
  go_wp2_with fail
  go_ret
  exact ⟨rfl, gr_below HR4.out⟩

theorem own : ownKnob Try.prog.godebug = none := by kernel_rfl
theorem laidOut : laidOutB Try.prog = true := by kernel_rfl

set_option maxRecDepth 100000 in
theorem lifted (os : Os) (started : os.Started) (H : Type) (enc : TypeId × Value → H) :
    ReturnsInHanded {} Try.checked os 3 .any (Rows.maskAllSpec.pre6 enc Try.prog Try.f3 Rows.maskAllRow.domain false) (Rows.maskAllSpec.post enc Try.prog Try.f3 false true false false) := by
  refine returnsInHanded_of_change (C := Try.checked) own started (by kernel_rfl) Try.func3
    (ChangeSpec.witness6 (enc := enc) (C := Try.checked) false ⟨#[], #[.agg #[.int .u64 0, .int .u64 0], .int .i64 0, .slice none 0 0], []⟩ 8 (by kernel_rfl) (by kernel_rfl) (by kernel_rfl) (by kernel_rfl)) ?_
  intro W base args ds gs before hval0 hW hcnd _
  have hval : ∀ (j : Nat) t v, Try.f3.params[j]? = some t → args[j]? = some v → Value.okWide Try.prog W .any base t v := hval0
  have hW' := hW
  obtain ⟨p, q, hA0, hV, rfl, hfz, hnd⟩ := hW
  have hA : DataW.TrodAll enc Try.prog W 0 (fun _ => true) true Try.f3.params.toList args.toList ds p := hA0
  rw [Try.params3] at hA hval
  obtain ⟨v0, vs0, d0, ds0, p0, q0, hargs, rfl, rfl, h0, r0⟩ := trodAll_cons hA
  obtain ⟨v1, vs1, d1, ds1, p1, q1, rfl, rfl, rfl, h1, r1⟩ := trodAll_cons r0
  obtain ⟨v2, vs2, d2, ds2, p2, q2, rfl, rfl, rfl, h2, r2⟩ := trodAll_cons r1
  obtain ⟨rfl, rfl, rfl⟩ := trodAll_nil r2
  obtain rfl : args = #[v0, v1, v2] := by cases args; simp_all
  obtain ⟨rfl, rfl⟩ := trodVars_none hV
  clear hA0 hval0 hA
  have k0 := h0
  have lt0 : ∀ x ∈ p0, x.block < W.heap.size := by obtain ⟨m, hm⟩ := k0; exact DataW.trod_lt m _ _ _ hm
  obtain ⟨xs0, rfl, l0, w0⟩ := Op.open_arr_int Try.underlying23 Try.underlying22 (by kernel_rfl) (by kernel_rfl) (hval 0 23 v0 rfl rfl) h0
  obtain _ | ⟨a0_0, xs0⟩ := xs0
  · simp at l0
  obtain _ | ⟨a0_1, xs0⟩ := xs0
  · simp at l0
  obtain _ | ⟨_, _⟩ := xs0
  rotate_left
  · simp at l0
  clear h0
  simp only [List.map_cons, List.map_nil] at *
  have w0_0 := w0 a0_0 (by simp)
  have w0_1 := w0 a0_1 (by simp)
  have k1 := h1
  have lt1 : ∀ x ∈ p1, x.block < W.heap.size := by obtain ⟨m, hm⟩ := k1; exact DataW.trod_lt m _ _ _ hm
  obtain ⟨a1, rfl, rfl, rfl, w1⟩ := open_int Try.underlying3 (hval 1 3 v1 rfl rfl) h1
  have k2 := h2
  have lt2 : ∀ x ∈ p2, x.block < W.heap.size := by obtain ⟨m, hm⟩ := k2; exact DataW.trod_lt m _ _ _ hm
  obtain ⟨A2, m2, c2, rfl, mc2, cc2, raw2⟩ := Op.open_rows (K := 1) Try.underlying24 (by kernel_rfl) (by decide) (hval 2 24 v2 rfl rfl) h2
  have el2 : ∀ i, i < m2 → ∃ ad, A2 = some ad ∧ ad.block < W.heap.size ∧ ∃ (x0 : Int), (W.cell? (ad.add (i * 1 + 0)) = some (.int .i64 x0) ∧ (Lit.int .i64 x0).wf = true) := by
    intro i hi
    obtain ⟨ad, hA, hb, mm, cs, yy, hl, hcl, ht⟩ := raw2 i hi
    obtain _ | ⟨c_0, cs⟩ := cs
    · simp at hl
    obtain _ | ⟨_, _⟩ := cs
    rotate_left
    · simp at hl
    have hc_0 := hcl 0 (by decide)
    clear hcl
    simp only [List.getElem?_cons_zero, List.getElem?_cons_succ] at hc_0
    obtain ⟨x0, ee0, _, ww0⟩ := DataW.trod_int Try.underlying3 ht
    simp at ee0; subst ee0
    exact ⟨ad, hA, hb, x0, ⟨hc_0, ww0⟩⟩
  refine (walk W a0_0 w0_0 a0_1 w0_1 a1 w1 A2 m2 c2 mc2 cc2 el2).mono fun e W' ⟨he, bel⟩ => ?_
  subst he
  exact ⟨_, rfl, _, _, _, [], _, [], hW', trodAll_mk1 (shut_bool Try.underlying4 _), (trodAll_cons_mk (Below.trod laidOut (by kernel_rfl) (of_decide_eq_true (by kernel_rfl)) k0 bel lt0) (trodAll_cons_mk (Below.trod laidOut (by kernel_rfl) (of_decide_eq_true (by kernel_rfl)) k1 bel lt1) (trodAll_cons_mk (Below.trod laidOut (by kernel_rfl) (of_decide_eq_true (by kernel_rfl)) k2 bel lt2) trodAll_mk0))), rfl, bel.frame _, fun h => by cases h⟩

theorem over : Rows.maskAllRow.holds Try.pinned (OpenSpec.ofChange Rows.maskAllSpec) :=
  OpenClaim.holds_of_wide 3 Try.f3 rfl rfl rfl rfl rfl rfl rfl ⟨rfl, rfl, rfl, rfl, rfl⟩ rfl rfl rfl rfl rfl (by kernel_rfl) Try.func3 (by kernel_rfl)
    (of_decide_eq_true (by kernel_rfl)) (by unfold Func.isWrapper; first | (rw [if_pos (by decide +kernel)]; kernel_rfl) | (rw [if_neg (by decide +kernel)]; exact ⟨rfl, rfl⟩))
    (fun os started H enc _ => lifted os started H enc)

/-- The statement. -/
theorem proved : Rows.MaskAllSaid := over
#print axioms proved

end Go.Proofs.Ytgcjefgblodfmaa.maskAll
