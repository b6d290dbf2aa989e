/-
  Proved: for any entry, and any address, kind, privilege and status, the law PteFaults returns true: an entry without its first bit, with a reserved one, or that may be written but not read, is nothing; one that was never accessed lets nothing, one that is not dirty no store; and nothing is let but by the three kinds and the two privileges.
  Conditions: none beyond the statement's own.
-/
import Derived.Test.YtopicfmlnfnliaaRows
import Derived.Test.YtopicfmlnfnliaaOpen
import Derived.Lib.Hide
import Derived.Test.YtopicfmlnfnliaaPteLw
import Derived.Test.YtopicfmlnfnliaaPteW
namespace Go.Proofs.Ytopicfmlnfnliaa.pteFaults
open Go Go.ChangeShapes Go.WideShapes Go.ChangeAt Go.RowKit W M D A P
set_option linter.unusedVariables false

set_option maxRecDepth 100000 in
set_option maxHeartbeats 8000000 in
theorem walk (w : World) (a0 : Int) (w0 : (Lit.int .u64 a0).wf = true) (a1_0 : Int) (w1_0 : (Lit.int .u64 a1_0).wf = true) (a1_1 : Int) (w1_1 : (Lit.int .u64 a1_1).wf = true) (a1_2 : Int) (w1_2 : (Lit.int .i64 a1_2).wf = true) (a1_3 : Int) (w1_3 : (Lit.int .i64 a1_3).wf = true) (a1_4 : Int) (w1_4 : (Lit.int .i64 a1_4).wf = true) :
    Calls Try.prog 6 #[.int .u64 a0, .agg #[.int .u64 a1_0, .int .u64 a1_1, .int .i64 a1_2, .int .i64 a1_3, .int .i64 a1_4]] w fun e w' => e = .returned (.bool true) ∧ Below w.heap.size w w' := by
  have he : B64 a0 := bounds_u64 w0
  have hv : B64 a1_0 := bounds_u64 w1_0
  have hs : B64 a1_1 := bounds_u64 w1_1
  have hk : I64 a1_3 := bounds_i64 w1_3
  have hr : I64 a1_4 := bounds_i64 w1_4
  clear w0 w1_0 w1_1 w1_2 w1_3 w1_4
  have o1 := off_valid he
  obtain ⟨j, hj, hj1⟩ : ∃ j : Nat, (54 + a1_0 % 10).toNat = j ∧ 54 ≤ j ∧ j ≤ 63 := ⟨_, rfl, by unfold B64 at hv; omega⟩
  have hw : IntKind.u64.wrap (2 ^ (54 + a1_0 % 10).toNat) = 2 ^ j := by
    rw [hj, u64_eq]
    have h1 : (2 : Int) ^ j ≤ 2 ^ 63 := pow_le j 63 hj1.2
    have h0 := pow_pos' j
    omega
  have o2 := high_valid he j hj1
  have o3 := odd_valid he
  unfold oddV at o3
  have o4 := fun k p s => fresh_may (k := k) (p := p) (s := s) he
  have o5 := fun p s => clean_may (p := p) (s := s) he
  rw [← hw] at o2
  have V1 := Lib.hid (fun W => Valid_c _ o1.1 W)
  rw [o1.2] at V1
  have V2 := Lib.hid (fun W => Valid_c _ o2.1 W)
  rw [o2.2] at V2
  have V3 := Lib.hid (fun W => Valid_c _ o3.2.2.1 W)
  rw [o3.2.2.2] at V3
  have L1 := Lib.hid (fun W => Leaf_c _ o1.1 W)
  rw [leaf_not o1.2] at L1
  have T2 := Lib.hid (fun W => Table_c _ o2.1 W)
  rw [table_not o2.2] at T2
  have M := Lib.hid (fun W => May_c a0 a1_3 a1_4 a1_1 he hk hr hs W)
  have MF := Lib.hid (fun W => May_c _ a1_3 a1_4 a1_1 (o4 a1_3 a1_4 a1_1).1 hk hr hs W)
  rw [(o4 a1_3 a1_4 a1_1).2] at MF
  have MC := Lib.hid (fun W => May_c _ 2 a1_4 a1_1 (o5 a1_4 a1_1).1 (by unfold I64; omega) hr hs W)
  rw [(o5 a1_4 a1_1).2] at MC
  have ML : Hid (mayV a0 a1_3 a1_4 a1_1 = true → (0 ≤ a1_3 ∧ a1_3 ≤ 2) ∧ 0 ≤ a1_4 ∧ a1_4 ≤ 1) := Lib.hid may_within
  generalize mayV a0 a1_3 a1_4 a1_1 = lets at *
  clear o1 o2 o3 o4 o5 hw hj hj1
  have H0 := Lib.hid (pheld_fresh w a1_0 a1_1 a1_2 a1_3 a1_4)
  unfold B64 at *
  unfold I64 at *
  go_enter Try.func6, Try.ntmps6
  go_wp2_with fail
  refine (shown10_c _).mono ?_
  rintro e w1 ⟨rfl, hG⟩
  have H1 := H0.out.on hG
  clear H0 hG
  obtain ⟨c0, c1, c2, c3, c4, -, -⟩ := id H1
  go_wp2_with fail
  refine (V1.out _).mono ?_
  rintro r w2 ⟨rfl, G2⟩
  go_wp2_with fail
  refine (V2.out _).mono ?_
  rintro r w3 ⟨rfl, G3⟩
  go_wp2_with fail
  refine (V3.out _).mono ?_
  rintro r w4 ⟨rfl, G4⟩
  go_wp2_with fail
  refine (L1.out _).mono ?_
  rintro r w5 ⟨rfl, G5⟩
  go_wp2_with fail
  refine (T2.out _).mono ?_
  rintro r w6 ⟨rfl, G6⟩
  replace H1 := H1.on (gr_trans (gr_trans (gr_trans (gr_trans G2 G3) G4) G5) G6)
  clear G2 G3 G4 G5 G6 c0 c1 c2 c3 c4
  obtain ⟨c0, c1, c2, c3, c4, -, -⟩ := id H1
  go_wp2_with fail
  refine (M.out _).mono ?_
  rintro r w7 ⟨rfl, G7⟩
  replace H1 := H1.on G7
  clear G7 c0 c1 c2 c3 c4
  obtain ⟨c0, c1, c2, c3, c4, -, -⟩ := id H1
  go_wp2_with fail
  refine (MF.out _).mono ?_
  rintro r w8 ⟨rfl, G8⟩
  replace H1 := H1.on G8
  clear G8 c0 c1 c2 c3 c4
  obtain ⟨c0, c1, c2, c3, c4, -, -⟩ := id H1
  go_wp2_with fail
  refine (MC.out _).mono ?_
  rintro r w9 ⟨rfl, G9⟩
  replace H1 := H1.on G9
  clear G9 c0 c1 c2 c3 c4
  obtain ⟨c0, c1, c2, c3, c4, -, -⟩ := id H1
  cases lets with
  | false =>
    go_wp2_with fail
    go_ret
    exact ⟨rfl, gr_below H1.gr⟩
  | true =>
    have hl := ML.out rfl
    go_wp2_with fail
    go_ret
    exact ⟨rfl, gr_below H1.gr⟩

theorem own : ownKnob Try.prog.godebug = none := by kernel_rfl
theorem laidOut : laidOutB Try.prog = true := by kernel_rfl

set_option maxRecDepth 100000 in
theorem lifted (os : Os) (started : os.Started) (H : Type) (enc : TypeId × Value → H) :
    ReturnsInHanded {} Try.checked os 6 .any (Rows.pteFaultsSpec.pre6 enc Try.prog Try.f6 Rows.pteFaultsRow.domain false) (Rows.pteFaultsSpec.post enc Try.prog Try.f6 false true false false) := by
  refine returnsInHanded_of_change (C := Try.checked) own started (by kernel_rfl) Try.func6
    (ChangeSpec.witness6 (enc := enc) (C := Try.checked) false ⟨#[], #[.int .u64 0, .agg #[.int .u64 0, .int .u64 0, .int .i64 0, .int .i64 0, .int .i64 0]], []⟩ 8 (by kernel_rfl) (by kernel_rfl) (by kernel_rfl) (by kernel_rfl)) ?_
  intro W base args ds gs before hval0 hW hcnd _
  have hval : ∀ (j : Nat) t v, Try.f6.params[j]? = some t → args[j]? = some v → Value.okWide Try.prog W .any base t v := hval0
  have hW' := hW
  obtain ⟨p, q, hA0, hV, rfl, hfz, hnd⟩ := hW
  have hA : DataW.TrodAll enc Try.prog W 0 (fun _ => true) true Try.f6.params.toList args.toList ds p := hA0
  rw [Try.params6] at hA hval
  obtain ⟨v0, vs0, d0, ds0, p0, q0, hargs, rfl, rfl, h0, r0⟩ := trodAll_cons hA
  obtain ⟨v1, vs1, d1, ds1, p1, q1, rfl, rfl, rfl, h1, r1⟩ := trodAll_cons r0
  obtain ⟨rfl, rfl, rfl⟩ := trodAll_nil r1
  obtain rfl : args = #[v0, v1] := by cases args; simp_all
  obtain ⟨rfl, rfl⟩ := trodVars_none hV
  clear hA0 hval0 hA
  have k0 := h0
  have lt0 : ∀ x ∈ p0, x.block < W.heap.size := by obtain ⟨m, hm⟩ := k0; exact DataW.trod_lt m _ _ _ hm
  obtain ⟨a0, rfl, rfl, rfl, w0⟩ := open_int Try.underlying22 (hval 0 22 v0 rfl rfl) h0
  have k1 := h1
  have lt1 : ∀ x ∈ p1, x.block < W.heap.size := by obtain ⟨m, hm⟩ := k1; exact DataW.trod_lt m _ _ _ hm
  obtain ⟨xs1, rfl, l1, m1, f1⟩ := Op.open_struct Try.underlying24 (hval 1 24 v1 rfl rfl) h1
  rw [show Try.prog.cellsOf 24 = 5 from by kernel_rfl] at l1
  obtain _ | ⟨c1_0, xs1⟩ := xs1
  · simp at l1
  obtain _ | ⟨c1_1, xs1⟩ := xs1
  · simp at l1
  obtain _ | ⟨c1_2, xs1⟩ := xs1
  · simp at l1
  obtain _ | ⟨c1_3, xs1⟩ := xs1
  · simp at l1
  obtain _ | ⟨c1_4, xs1⟩ := xs1
  · simp at l1
  obtain _ | ⟨_, _⟩ := xs1
  rotate_left
  · simp at l1
  clear h1
  obtain ⟨y1_0, g1_0⟩ := f1 0 _ rfl
  replace g1_0 : DataW.trod enc Try.prog W 0 (fun _ => true) true m1 22 [c1_0] = some y1_0 := g1_0
  obtain ⟨a1_0, e1_0, _, w1_0⟩ := DataW.trod_int Try.underlying22 g1_0
  simp at e1_0; subst e1_0
  obtain ⟨y1_1, g1_1⟩ := f1 1 _ rfl
  replace g1_1 : DataW.trod enc Try.prog W 0 (fun _ => true) true m1 22 [c1_1] = some y1_1 := g1_1
  obtain ⟨a1_1, e1_1, _, w1_1⟩ := DataW.trod_int Try.underlying22 g1_1
  simp at e1_1; subst e1_1
  obtain ⟨y1_2, g1_2⟩ := f1 2 _ rfl
  replace g1_2 : DataW.trod enc Try.prog W 0 (fun _ => true) true m1 3 [c1_2] = some y1_2 := g1_2
  obtain ⟨a1_2, e1_2, _, w1_2⟩ := DataW.trod_int Try.underlying3 g1_2
  simp at e1_2; subst e1_2
  obtain ⟨y1_3, g1_3⟩ := f1 3 _ rfl
  replace g1_3 : DataW.trod enc Try.prog W 0 (fun _ => true) true m1 3 [c1_3] = some y1_3 := g1_3
  obtain ⟨a1_3, e1_3, _, w1_3⟩ := DataW.trod_int Try.underlying3 g1_3
  simp at e1_3; subst e1_3
  obtain ⟨y1_4, g1_4⟩ := f1 4 _ rfl
  replace g1_4 : DataW.trod enc Try.prog W 0 (fun _ => true) true m1 3 [c1_4] = some y1_4 := g1_4
  obtain ⟨a1_4, e1_4, _, w1_4⟩ := DataW.trod_int Try.underlying3 g1_4
  simp at e1_4; subst e1_4
  refine (walk W a0 w0 a1_0 w1_0 a1_1 w1_1 a1_2 w1_2 a1_3 w1_3 a1_4 w1_4).mono fun e W' ⟨he, bel⟩ => ?_
  subst he
  exact ⟨_, rfl, _, _, _, [], _, [], hW', trodAll_mk1 (shut_bool Try.underlying4 _), (trodAll_cons_mk (Below.trod laidOut (by kernel_rfl) (of_decide_eq_true (by kernel_rfl)) k0 bel lt0) (trodAll_cons_mk (Below.trod laidOut (by kernel_rfl) (of_decide_eq_true (by kernel_rfl)) k1 bel lt1) trodAll_mk0)), rfl, bel.frame _, fun h => by cases h⟩

theorem over : Rows.pteFaultsRow.holds Try.pinned (OpenSpec.ofChange Rows.pteFaultsSpec) :=
  OpenClaim.holds_of_wide 6 Try.f6 rfl rfl rfl rfl rfl rfl rfl ⟨rfl, rfl, rfl, rfl, rfl⟩ rfl rfl rfl rfl rfl (by kernel_rfl) Try.func6 (by kernel_rfl)
    (of_decide_eq_true (by kernel_rfl)) (by unfold Func.isWrapper; first | (rw [if_pos (by decide +kernel)]; kernel_rfl) | (rw [if_neg (by decide +kernel)]; exact ⟨rfl, rfl⟩))
    (fun os started H enc _ => lifted os started H enc)

/-- The statement. -/
theorem proved : Rows.PteFaultsSaid := over
#print axioms proved

end Go.Proofs.Ytopicfmlnfnliaa.pteFaults
