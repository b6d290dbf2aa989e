/-
  Proved: for any two numbers of 64 bits, any two more, and whether they have signs, the law WordAll returns true: the program's functions of layer 1 answer as the document's own do.
  Conditions: none beyond the statement's own.
-/
import Derived.Test.YtbcfncffgjaapaaRows
import Derived.Test.YtbcfncffgjaapaaOpen
import Derived.Lib.Hide
import Derived.Deep.QuietTactic
import Derived.BigQuiet
import Derived.Test.YtbcfncffgjaapaaWordLaw
import Derived.Test.YtbcfncffgjaapaaWordR3
namespace Go.Proofs.Ytbcfncffgjaapaa.wordAll
open Go Go.ChangeShapes Go.WideShapes Go.ChangeAt Go.RowKit W
set_option linter.unusedVariables false

theorem below_alloc1 (w : World) (o1 : Obj) : Below w.heap.size w (w.alloc o1) := (Below.refl _ _).alloc (Nat.le_refl _) o1
theorem below_drawn {B : Nat} {w W : World} (h : Below B w W) (n : Nat) : Below B w (W.drewN n) :=
  h.trans ⟨rfl, rfl, rfl, Nat.le_refl _, fun _ _ => rfl⟩
/-- A call that leaves the world as it is, met in a region that only reads. -/
theorem quietly {P : Program} {f : FuncId} {args : Array Value} {W : World} {v : Value} {Q : World → Prop}
    (h : Calls P f args W fun e w' => e = .returned v ∧ W = w') (hQ : Q W) : Calls P f args W fun e w'' => e = .returned v ∧ Q w'' :=
  h.mono fun _ _ ⟨he, hw⟩ => ⟨he, hw ▸ hQ⟩

set_option maxHeartbeats 1000000 in
theorem walk (a0 : Int) (w0 : (Lit.int .u64 a0).wf = true) (a1 : Int) (w1 : (Lit.int .u64 a1).wf = true) (a2_0 : Int) (w2_0 : (Lit.int .i64 a2_0).wf = true) (a2_1 : Int) (w2_1 : (Lit.int .i64 a2_1).wf = true) (a2_2 : Bool) (a2_3 : Bool) (w : World) :
    Calls Try.prog 3 #[.int .u64 a0, .int .u64 a1, .agg #[.int .i64 a2_0, .int .i64 a2_1, .bool a2_2, .bool a2_3]] w fun e w' => e = .returned (.bool true) ∧ Below w.heap.size w w' := by
  have ha := bounds_u64 w0
  have hb := bounds_u64 w1
  have hn := bounds_i64 w2_0
  have hk := bounds_i64 w2_1
  clear w0 w1 w2_0 w2_1
  go_enter Try.func3, Try.ntmps3
  go_wp2_with fail
  refine (shown01_c _).mono ?_
  rintro e w' ⟨rfl, rfl⟩
  go_wp2_with fail
  go_quiet (first
    | (go_at_call 10; exact quietly (Sext_c _ _ ha hn _) ⟨_, rfl⟩)
    | (go_at_call 11; exact quietly (rSext_c _ _ ha hn _) ⟨_, rfl⟩)
    | (go_at_call 12; exact quietly (High_c _ _ _ _ ha hb _) ⟨_, rfl⟩)
    | (go_at_call 13; exact quietly (rHigh_c _ _ _ _ ha hb _) ⟨_, rfl⟩))
  go_wp2_with fail
  go_quiet (first
    | (go_at_call 14; exact quietly (Div_c _ _ _ ha hb _) ⟨_, rfl⟩)
    | (go_at_call 15; exact quietly (rDiv_c _ _ _ ha hb _) ⟨_, rfl⟩)
    | (go_at_call 16; exact quietly (Rem_c _ _ _ ha hb _) ⟨_, rfl⟩)
    | (go_at_call 17; exact quietly (rRem_c _ _ _ ha hb _) ⟨_, rfl⟩))
  go_wp2_with fail
  go_quiet (first
    | (go_at_call 18; exact quietly (Div32_c _ _ _ ha hb _) ⟨_, rfl⟩)
    | (go_at_call 19; exact quietly (rDiv32_c _ _ _ ha hb _) ⟨_, rfl⟩)
    | (go_at_call 20; exact quietly (Rem32_c _ _ _ ha hb _) ⟨_, rfl⟩)
    | (go_at_call 21; exact quietly (rRem32_c _ _ _ ha hb _) ⟨_, rfl⟩))
  go_wp2_with fail
  go_quiet (first
    | (go_at_call 22; exact quietly (Shift_c _ _ _ ha hk hn _) ⟨_, rfl⟩)
    | (go_at_call 23; exact quietly (rShift_c _ _ _ ha hk hn _) ⟨_, rfl⟩))
  go_wp2_with fail
  go_ret
  exact ⟨rfl, below_drawn (below_drawn (below_drawn (below_drawn (below_alloc1 _ _) _) _) _) _⟩

theorem own : ownKnob Try.prog.godebug = none := by kernel_rfl
theorem laidOut : laidOutB Try.prog = true := by kernel_rfl

set_option maxRecDepth 100000 in
theorem lifted (os : Os) (started : os.Started) (H : Type) (enc : TypeId × Value → H) :
    ReturnsInHanded {} Try.checked os 3 .any (Rows.wordAllSpec.pre6 enc Try.prog Try.f3 Rows.wordAllRow.domain false) (Rows.wordAllSpec.post enc Try.prog Try.f3 false true false false) := by
  refine returnsInHanded_of_change (C := Try.checked) own started (by kernel_rfl) Try.func3
    (ChangeSpec.witness6 (enc := enc) (C := Try.checked) false ⟨#[], #[.int .u64 0, .int .u64 0, .agg #[.int .i64 0, .int .i64 0, .bool false, .bool false]], []⟩ 8 (by kernel_rfl) (by kernel_rfl) (by kernel_rfl) (by kernel_rfl)) ?_
  intro W base args ds gs before hval0 hW hcnd _
  have hval : ∀ (j : Nat) t v, Try.f3.params[j]? = some t → args[j]? = some v → Value.okWide Try.prog W .any base t v := hval0
  have hW' := hW
  obtain ⟨p, q, hA0, hV, rfl, hfz, hnd⟩ := hW
  have hA : DataW.TrodAll enc Try.prog W 0 (fun _ => true) true Try.f3.params.toList args.toList ds p := hA0
  rw [Try.params3] at hA hval
  obtain ⟨v0, vs0, d0, ds0, p0, q0, hargs, rfl, rfl, h0, r0⟩ := trodAll_cons hA
  obtain ⟨v1, vs1, d1, ds1, p1, q1, rfl, rfl, rfl, h1, r1⟩ := trodAll_cons r0
  obtain ⟨v2, vs2, d2, ds2, p2, q2, rfl, rfl, rfl, h2, r2⟩ := trodAll_cons r1
  obtain ⟨rfl, rfl, rfl⟩ := trodAll_nil r2
  obtain rfl : args = #[v0, v1, v2] := by cases args; simp_all
  obtain ⟨rfl, rfl⟩ := trodVars_none hV
  clear hA0 hval0 hA
  have k0 := h0
  have lt0 : ∀ x ∈ p0, x.block < W.heap.size := by obtain ⟨m, hm⟩ := k0; exact DataW.trod_lt m _ _ _ hm
  obtain ⟨a0, rfl, rfl, rfl, w0⟩ := open_int Try.underlying22 (hval 0 22 v0 rfl rfl) h0
  have k1 := h1
  have lt1 : ∀ x ∈ p1, x.block < W.heap.size := by obtain ⟨m, hm⟩ := k1; exact DataW.trod_lt m _ _ _ hm
  obtain ⟨a1, rfl, rfl, rfl, w1⟩ := open_int Try.underlying22 (hval 1 22 v1 rfl rfl) h1
  have k2 := h2
  have lt2 : ∀ x ∈ p2, x.block < W.heap.size := by obtain ⟨m, hm⟩ := k2; exact DataW.trod_lt m _ _ _ hm
  obtain ⟨xs2, rfl, l2, m2, f2⟩ := Op.open_struct Try.underlying24 (hval 2 24 v2 rfl rfl) h2
  rw [show Try.prog.cellsOf 24 = 4 from by kernel_rfl] at l2
  obtain _ | ⟨c2_0, xs2⟩ := xs2
  · simp at l2
  obtain _ | ⟨c2_1, xs2⟩ := xs2
  · simp at l2
  obtain _ | ⟨c2_2, xs2⟩ := xs2
  · simp at l2
  obtain _ | ⟨c2_3, xs2⟩ := xs2
  · simp at l2
  obtain _ | ⟨_, _⟩ := xs2
  rotate_left
  · simp at l2
  clear h2
  obtain ⟨y2_0, g2_0⟩ := f2 0 _ rfl
  replace g2_0 : DataW.trod enc Try.prog W 0 (fun _ => true) true m2 3 [c2_0] = some y2_0 := g2_0
  obtain ⟨a2_0, e2_0, _, w2_0⟩ := DataW.trod_int Try.underlying3 g2_0
  simp at e2_0; subst e2_0
  obtain ⟨y2_1, g2_1⟩ := f2 1 _ rfl
  replace g2_1 : DataW.trod enc Try.prog W 0 (fun _ => true) true m2 3 [c2_1] = some y2_1 := g2_1
  obtain ⟨a2_1, e2_1, _, w2_1⟩ := DataW.trod_int Try.underlying3 g2_1
  simp at e2_1; subst e2_1
  obtain ⟨y2_2, g2_2⟩ := f2 2 _ rfl
  replace g2_2 : DataW.trod enc Try.prog W 0 (fun _ => true) true m2 4 [c2_2] = some y2_2 := g2_2
  obtain ⟨a2_2, e2_2, _⟩ := DataW.trod_bool Try.underlying4 g2_2
  simp at e2_2; subst e2_2
  obtain ⟨y2_3, g2_3⟩ := f2 3 _ rfl
  replace g2_3 : DataW.trod enc Try.prog W 0 (fun _ => true) true m2 4 [c2_3] = some y2_3 := g2_3
  obtain ⟨a2_3, e2_3, _⟩ := DataW.trod_bool Try.underlying4 g2_3
  simp at e2_3; subst e2_3
  refine (walk a0 w0 a1 w1 a2_0 w2_0 a2_1 w2_1 a2_2 a2_3 W).mono fun e W' ⟨he, bel⟩ => ?_
  subst he
  exact ⟨_, rfl, _, _, _, [], _, [], hW', trodAll_mk1 (shut_bool Try.underlying4 _), (trodAll_cons_mk (Below.trod laidOut (by kernel_rfl) (of_decide_eq_true (by kernel_rfl)) k0 bel lt0) (trodAll_cons_mk (Below.trod laidOut (by kernel_rfl) (of_decide_eq_true (by kernel_rfl)) k1 bel lt1) (trodAll_cons_mk (Below.trod laidOut (by kernel_rfl) (of_decide_eq_true (by kernel_rfl)) k2 bel lt2) trodAll_mk0))), rfl, bel.frame _, fun h => by cases h⟩

theorem over : Rows.wordAllRow.holds Try.pinned (OpenSpec.ofChange Rows.wordAllSpec) :=
  OpenClaim.holds_of_wide 3 Try.f3 rfl rfl rfl rfl rfl rfl rfl ⟨rfl, rfl, rfl, rfl, rfl⟩ rfl rfl rfl rfl rfl (by kernel_rfl) Try.func3 (by kernel_rfl)
    (of_decide_eq_true (by kernel_rfl)) (by unfold Func.isWrapper; first | (rw [if_pos (by decide +kernel)]; kernel_rfl) | (rw [if_neg (by decide +kernel)]; exact ⟨rfl, rfl⟩))
    (fun os started H enc _ => lifted os started H enc)

/-- The statement. -/
theorem proved : Rows.WordAllSaid := over
#print axioms proved

end Go.Proofs.Ytbcfncffgjaapaa.wordAll
