/-
  Proved: for any word, any number, any format and any two numbers, the law FieldAll returns true: the program's parts of a word, and what a number is laid as, are the document's own.
  Conditions: none beyond the statement's own.
-/
import Derived.Test.YtpoplagfhenabaaRows
import Derived.Test.YtpoplagfhenabaaOpen
import Derived.Lib.Hide
import Derived.Deep.RegionHeld3
import Derived.Test.YtpoplagfhenabaaFieldR4
namespace Go.Proofs.Ytpoplagfhenabaa.fieldAll
open Go Go.ChangeShapes Go.WideShapes Go.ChangeAt Go.RowKit F W M
set_option linter.unusedVariables false

theorem quiet_grown {P : Program} {f : FuncId} {args : Array Value} {w : World} {v : Value} (h : Calls P f args w fun e w' => e = .returned v ∧ ∃ n, w' = w.drewN n) :
    Calls P f args w fun e w' => e = .returned v ∧ w.grownBy w' none :=
  h.mono fun _ _ ⟨he, n, hw⟩ => ⟨he, by rw [hw]; exact gr_drewN (gr_refl _ _) n⟩
theorem same_grown {P : Program} {f : FuncId} {args : Array Value} {w : World} {v : Value} (h : Calls P f args w fun e w' => e = .returned v ∧ w = w') :
    Calls P f args w fun e w' => e = .returned v ∧ w.grownBy w' none :=
  h.mono fun _ _ ⟨he, hw⟩ => ⟨he, by rw [← hw]; exact gr_refl _ _⟩
theorem held {a b c : Int} {w0 w1 w2 : World} {B : Nat} {T : TypeId} (hG : w1.grownBy w2 none)
    (hS : w1.cell? ⟨B, 0, none⟩ = some (.int .i64 a) ∧ w1.cell? ⟨B, 1, none⟩ = some (.int .i64 b) ∧ w1.cell? ⟨B, 2, none⟩ = some (.int .i64 c) ∧ Row w1 B T [.int .i64 a, .int .i64 b, .int .i64 c] ∧ Below w0.heap.size w0 w1 ∧ w0.heap.size ≤ B) :
    w2.cell? ⟨B, 0, none⟩ = some (.int .i64 a) ∧ w2.cell? ⟨B, 1, none⟩ = some (.int .i64 b) ∧ w2.cell? ⟨B, 2, none⟩ = some (.int .i64 c) ∧ Row w2 B T [.int .i64 a, .int .i64 b, .int .i64 c] ∧ Below w0.heap.size w0 w2 ∧ w0.heap.size ≤ B := by
  obtain ⟨_, _, _, hR, hB, hb⟩ := hS
  have hR2 := hR.grown hG (by simp)
  refine ⟨hR2.cell 0, hR2.cell 1, hR2.cell 2, hR2, ?_, hb⟩
  exact ⟨hG.os.trans hB.os, hG.tape.trans hB.tape, hG.output.trans hB.output, Nat.le_trans hB.size hG.size, fun i hi => (hG.block i (Nat.lt_of_lt_of_le hi hB.size) (by simp)).trans (hB.block i hi)⟩

set_option maxRecDepth 100000 in
set_option maxHeartbeats 4000000 in
theorem walk (w : World) (a0 : Int) (w0 : (Lit.int .u32 a0).wf = true) (a1 : Int) (w1 : (Lit.int .i64 a1).wf = true) (a2_0 : Int) (w2_0 : (Lit.int .i64 a2_0).wf = true) (a2_1 : Int) (w2_1 : (Lit.int .i64 a2_1).wf = true) (a2_2 : Int) (w2_2 : (Lit.int .i64 a2_2).wf = true) :
    Calls Try.prog 3 #[.int .u32 a0, .int .i64 a1, .agg #[.int .i64 a2_0, .int .i64 a2_1, .int .i64 a2_2]] w fun e w' => e = .returned (.bool true) ∧ Below w.heap.size w w' := by
  have h0 := bounds_u32 w0
  have h1 := bounds_i64 w1
  have h2 := bounds_i64 w2_0
  have h3 := bounds_i64 w2_1
  have h4 := bounds_i64 w2_2
  clear w0 w1 w2_0 w2_1 w2_2
  obtain ⟨x, rfl⟩ : ∃ x : Nat, a0 = x := ⟨a0.toNat, by omega⟩
  have hx : x < 4294967296 := by omega
  have HR := Lib.hid (Row.fresh w 23 [.int .i64 a2_0, .int .i64 a2_1, .int .i64 a2_2])
  go_enter Try.func3, Try.ntmps3
  go_wp2_with fail
  refine (shown03_c _).mono ?_
  rintro e w1 ⟨rfl, hG⟩
  have hR1 := HR.out.grown hG (by simp)
  have c0 := hR1.cell 0
  simp only [List.getElem?_cons_zero] at c0
  go_wp2_with fail
  refine (Lay_c a1 a2_0 h1 h2 _).mono ?_
  rintro e w2 ⟨rfl, hG2⟩
  have hR2 := hR1.grown hG2 (by simp)
  have c02 := hR2.cell 0
  simp only [List.getElem?_cons_zero] at c02
  go_wp2_with fail
  refine (rLay_c a1 a2_0 h1 h2 _).mono ?_
  rintro e w3 ⟨rfl, hG3⟩
  have hR3 := hR2.grown hG3 (by simp)
  generalize layV a1 a2_0 = lv at *
  generalize layB a1 a2_0 = lb at *
  go_wp2_with fail
  refine (Rd_c x hx _).mono ?_
  rintro e w4 ⟨rfl, d1, rfl⟩
  go_wp2_with fail
  refine (rRd_c x hx _).mono ?_
  rintro e w4 ⟨rfl, rfl⟩
  generalize F.get x 7 5 = g1 at *
  go_wp2_with fail
  refine (Rs1_c x hx _).mono ?_
  rintro e w4 ⟨rfl, d2, rfl⟩
  go_wp2_with fail
  refine (rRs1_c x hx _).mono ?_
  rintro e w4 ⟨rfl, rfl⟩
  generalize F.get x 15 5 = g2 at *
  go_wp2_with fail
  refine (Rs2_c x hx _).mono ?_
  rintro e w4 ⟨rfl, d3, rfl⟩
  go_wp2_with fail
  refine (rRs2_c x hx _).mono ?_
  rintro e w4 ⟨rfl, rfl⟩
  generalize F.get x 20 5 = g3 at *
  go_wp2_with fail
  have hS0 : (w3.drewN (d1 + d2 + d3)).cell? ⟨w.heap.size, 0, none⟩ = some (.int .i64 a2_0) ∧ (w3.drewN (d1 + d2 + d3)).cell? ⟨w.heap.size, 1, none⟩ = some (.int .i64 a2_1) ∧ (w3.drewN (d1 + d2 + d3)).cell? ⟨w.heap.size, 2, none⟩ = some (.int .i64 a2_2) ∧ Row (w3.drewN (d1 + d2 + d3)) w.heap.size 23 [.int .i64 a2_0, .int .i64 a2_1, .int .i64 a2_2] ∧ Below w.heap.size w (w3.drewN (d1 + d2 + d3)) ∧ w.heap.size ≤ w.heap.size :=
    ⟨hR3.cell 0, hR3.cell 1, hR3.cell 2, hR3, below_drewN (gr_below (gr_trans (gr_trans (gr_trans (gr_alloc (gr_refl _ _) _) hG) hG2) hG3)) _, Nat.le_refl _⟩
  clear hR1 hR2 hR3 hG hG2 hG3 c0 c02 HR
  generalize w3.drewN (d1 + d2 + d3) = W at *
  have G1 := Lib.hid (fun W' => quiet_grown (Get_c x a2_1 a2_2 hx h3 h4 W'))
  have G2 := Lib.hid (fun W' => same_grown (rGet_c x a2_1 a2_2 hx h3 h4 W'))
  have I1 := Lib.hid (fun W' => Imm_c x a2_0 hx h2 W')
  have I2 := Lib.hid (fun W' => rImm_c x a2_0 hx h2 W')
  generalize gotV x a2_1 a2_2 = gv at *
  generalize immV x a2_0 = iv at *
  go_region_held3 (fun w' => w'.cell? ⟨w.heap.size, 0, none⟩ = some (.int .i64 a2_0) ∧ w'.cell? ⟨w.heap.size, 1, none⟩ = some (.int .i64 a2_1) ∧ w'.cell? ⟨w.heap.size, 2, none⟩ = some (.int .i64 a2_2) ∧ Row w' w.heap.size 23 [.int .i64 a2_0, .int .i64 a2_1, .int .i64 a2_2] ∧ Below w.heap.size w w' ∧ w.heap.size ≤ w.heap.size)
    (first | assumption | (exact held (gr_drew (gr_refl _ none)) (by assumption)) | (exact held (by assumption) (by assumption)))
    (first
      | (go_at_call 17; refine (G1.out _).mono ?_; rintro e w' ⟨rfl, hg⟩)
      | (go_at_call 18; refine (G2.out _).mono ?_; rintro e w' ⟨rfl, hg⟩)
      | (go_at_call 19; refine (I1.out _).mono ?_; rintro e w' ⟨rfl, hg⟩)
      | (go_at_call 20; refine (I2.out _).mono ?_; rintro e w' ⟨rfl, hg⟩))
  rename_i hHeld
  have hBe := hHeld.2.2.2.2.1
  clear hHeld
  go_wp2_with fail
  go_ret
  exact ⟨rfl, hBe⟩

theorem own : ownKnob Try.prog.godebug = none := by kernel_rfl
theorem laidOut : laidOutB Try.prog = true := by kernel_rfl

set_option maxRecDepth 100000 in
theorem lifted (os : Os) (started : os.Started) (H : Type) (enc : TypeId × Value → H) :
    ReturnsInHanded {} Try.checked os 3 .any (Rows.fieldAllSpec.pre6 enc Try.prog Try.f3 Rows.fieldAllRow.domain false) (Rows.fieldAllSpec.post enc Try.prog Try.f3 false true false false) := by
  refine returnsInHanded_of_change (C := Try.checked) own started (by kernel_rfl) Try.func3
    (ChangeSpec.witness6 (enc := enc) (C := Try.checked) false ⟨#[], #[.int .u32 0, .int .i64 0, .agg #[.int .i64 0, .int .i64 0, .int .i64 0]], []⟩ 8 (by kernel_rfl) (by kernel_rfl) (by kernel_rfl) (by kernel_rfl)) ?_
  intro W base args ds gs before hval0 hW hcnd _
  have hval : ∀ (j : Nat) t v, Try.f3.params[j]? = some t → args[j]? = some v → Value.okWide Try.prog W .any base t v := hval0
  have hW' := hW
  obtain ⟨p, q, hA0, hV, rfl, hfz, hnd⟩ := hW
  have hA : DataW.TrodAll enc Try.prog W 0 (fun _ => true) true Try.f3.params.toList args.toList ds p := hA0
  rw [Try.params3] at hA hval
  obtain ⟨v0, vs0, d0, ds0, p0, q0, hargs, rfl, rfl, h0, r0⟩ := trodAll_cons hA
  obtain ⟨v1, vs1, d1, ds1, p1, q1, rfl, rfl, rfl, h1, r1⟩ := trodAll_cons r0
  obtain ⟨v2, vs2, d2, ds2, p2, q2, rfl, rfl, rfl, h2, r2⟩ := trodAll_cons r1
  obtain ⟨rfl, rfl, rfl⟩ := trodAll_nil r2
  obtain rfl : args = #[v0, v1, v2] := by cases args; simp_all
  obtain ⟨rfl, rfl⟩ := trodVars_none hV
  clear hA0 hval0 hA
  have k0 := h0
  have lt0 : ∀ x ∈ p0, x.block < W.heap.size := by obtain ⟨m, hm⟩ := k0; exact DataW.trod_lt m _ _ _ hm
  obtain ⟨a0, rfl, rfl, rfl, w0⟩ := open_int Try.underlying22 (hval 0 22 v0 rfl rfl) h0
  have k1 := h1
  have lt1 : ∀ x ∈ p1, x.block < W.heap.size := by obtain ⟨m, hm⟩ := k1; exact DataW.trod_lt m _ _ _ hm
  obtain ⟨a1, rfl, rfl, rfl, w1⟩ := open_int Try.underlying2 (hval 1 2 v1 rfl rfl) h1
  have k2 := h2
  have lt2 : ∀ x ∈ p2, x.block < W.heap.size := by obtain ⟨m, hm⟩ := k2; exact DataW.trod_lt m _ _ _ hm
  obtain ⟨xs2, rfl, l2, w2⟩ := Op.open_arr_int Try.underlying23 Try.underlying3 (by kernel_rfl) (by kernel_rfl) (hval 2 23 v2 rfl rfl) h2
  obtain _ | ⟨a2_0, xs2⟩ := xs2
  · simp at l2
  obtain _ | ⟨a2_1, xs2⟩ := xs2
  · simp at l2
  obtain _ | ⟨a2_2, xs2⟩ := xs2
  · simp at l2
  obtain _ | ⟨_, _⟩ := xs2
  rotate_left
  · simp at l2
  clear h2
  simp only [List.map_cons, List.map_nil] at *
  have w2_0 := w2 a2_0 (by simp)
  have w2_1 := w2 a2_1 (by simp)
  have w2_2 := w2 a2_2 (by simp)
  refine (walk W a0 w0 a1 w1 a2_0 w2_0 a2_1 w2_1 a2_2 w2_2).mono fun e W' ⟨he, bel⟩ => ?_
  subst he
  exact ⟨_, rfl, _, _, _, [], _, [], hW', trodAll_mk1 (shut_bool Try.underlying4 _), (trodAll_cons_mk (Below.trod laidOut (by kernel_rfl) (of_decide_eq_true (by kernel_rfl)) k0 bel lt0) (trodAll_cons_mk (Below.trod laidOut (by kernel_rfl) (of_decide_eq_true (by kernel_rfl)) k1 bel lt1) (trodAll_cons_mk (Below.trod laidOut (by kernel_rfl) (of_decide_eq_true (by kernel_rfl)) k2 bel lt2) trodAll_mk0))), rfl, bel.frame _, fun h => by cases h⟩

theorem over : Rows.fieldAllRow.holds Try.pinned (OpenSpec.ofChange Rows.fieldAllSpec) :=
  OpenClaim.holds_of_wide 3 Try.f3 rfl rfl rfl rfl rfl rfl rfl ⟨rfl, rfl, rfl, rfl, rfl⟩ rfl rfl rfl rfl rfl (by kernel_rfl) Try.func3 (by kernel_rfl)
    (of_decide_eq_true (by kernel_rfl)) (by unfold Func.isWrapper; first | (rw [if_pos (by decide +kernel)]; kernel_rfl) | (rw [if_neg (by decide +kernel)]; exact ⟨rfl, rfl⟩))
    (fun os started H enc _ => lifted os started H enc)

/-- The statement. -/
theorem proved : Rows.FieldAllSaid := over
#print axioms proved

end Go.Proofs.Ytpoplagfhenabaa.fieldAll
