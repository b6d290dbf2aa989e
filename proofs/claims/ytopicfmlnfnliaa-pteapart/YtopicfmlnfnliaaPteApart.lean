/-
  Proved: for any entry, any kind and any status, the law PteApart returns true: no entry is a leaf and a table, none of both that is not valid; who may do something by one has the bits for it; a user's and a supervisor's are apart, but for Sum; and Mxr and Sum let more, never less.
  Conditions: none beyond the statement's own.
-/
import Derived.Test.YtopicfmlnfnliaaRows
import Derived.Test.YtopicfmlnfnliaaOpen
import Derived.Lib.Hide
import Derived.Test.YtopicfmlnfnliaaPteLw
import Derived.Test.YtopicfmlnfnliaaPteW
namespace Go.Proofs.Ytopicfmlnfnliaa.pteApart
open Go Go.ChangeShapes Go.WideShapes Go.ChangeAt Go.RowKit W M D A P
set_option linter.unusedVariables false

set_option maxRecDepth 100000 in
set_option maxHeartbeats 16000000 in
theorem walk (w : World) (a0 : Int) (w0 : (Lit.int .u64 a0).wf = true) (a1_0 : Int) (w1_0 : (Lit.int .u64 a1_0).wf = true) (a1_1 : Int) (w1_1 : (Lit.int .u64 a1_1).wf = true) (a1_2 : Int) (w1_2 : (Lit.int .i64 a1_2).wf = true) (a1_3 : Int) (w1_3 : (Lit.int .i64 a1_3).wf = true) (a1_4 : Int) (w1_4 : (Lit.int .i64 a1_4).wf = true) :
    Calls Try.prog 4 #[.int .u64 a0, .agg #[.int .u64 a1_0, .int .u64 a1_1, .int .i64 a1_2, .int .i64 a1_3, .int .i64 a1_4]] w fun e w' => e = .returned (.bool true) ∧ Below w.heap.size w w' := by
  have he : B64 a0 := bounds_u64 w0
  have hs : B64 a1_1 := bounds_u64 w1_1
  have hk : I64 a1_3 := bounds_i64 w1_3
  clear w0 w1_0 w1_1 w1_2 w1_3 w1_4
  have ap := apart (k := a1_3) he hs
  have hm := moreS_all a1_1 hs
  have CV := Lib.hid (fun W => Valid_c a0 he W)
  have CL := Lib.hid (fun W => Leaf_c a0 he W)
  have CT := Lib.hid (fun W => Table_c a0 he W)
  have CU := Lib.hid (fun W => May_c a0 a1_3 0 a1_1 he hk (by unfold I64; omega) hs W)
  have CS := Lib.hid (fun W => May_c a0 a1_3 1 a1_1 he hk (by unfold I64; omega) hs W)
  have CM := Lib.hid (fun W => May_c a0 a1_3 1 _ he hk (by unfold I64; omega) hm.2.1 W)
  have b1 := hm.1
  have b2 := hm.2.1
  clear hm
  generalize validV a0 = v at *
  generalize leafV a0 = l at *
  generalize tableV a0 = t at *
  generalize mayV a0 a1_3 0 a1_1 = u at *
  generalize mayV a0 a1_3 1 a1_1 = s at *
  generalize mayV a0 a1_3 1 (moreS a1_1) = m at *
  unfold moreS at *
  obtain ⟨f1, f2, f3, f4, f5, f6, f7, f8⟩ := ap
  have F1 := Lib.hid f1
  have F2 := Lib.hid f2
  have F3 := Lib.hid f3
  have F4 := Lib.hid f4
  have F5 := Lib.hid f5
  have F6 := Lib.hid f6
  have F7 := Lib.hid f7
  have F8 := Lib.hid f8
  clear f1 f2 f3 f4 f5 f6 f7 f8
  have H0 := Lib.hid (pheld_fresh w a1_0 a1_1 a1_2 a1_3 a1_4)
  unfold B64 at *
  unfold I64 at *
  go_enter Try.func4, Try.ntmps4
  go_wp2_with fail
  refine (shown10_c _).mono ?_
  rintro e w1 ⟨rfl, hG⟩
  have H1 := H0.out.on hG
  clear H0 hG
  go_wp2_with fail
  refine (CL.out _).mono ?_
  rintro r w2 ⟨rfl, G2⟩
  go_wp2_with fail
  refine (CT.out _).mono ?_
  rintro r w3 ⟨rfl, G3⟩
  replace H1 := H1.on (gr_trans G2 G3)
  clear G2 G3
  obtain ⟨c0, c1, c2, c3, c4, -, -⟩ := id H1
  go_wp2_with fail
  refine (CU.out _).mono ?_
  rintro r w4 ⟨rfl, G4⟩
  replace H1 := H1.on G4
  clear G4 c0 c1 c2 c3 c4
  obtain ⟨c0, c1, c2, c3, c4, -, -⟩ := id H1
  go_wp2_with fail
  refine (CS.out _).mono ?_
  rintro r w5 ⟨rfl, G5⟩
  replace H1 := H1.on G5
  clear G5 c0 c1 c2 c3 c4
  obtain ⟨c0, c1, c2, c3, c4, -, -⟩ := id H1
  go_wp2_with fail
  refine (CM.out _).mono ?_
  rintro r w6 ⟨rfl, G6⟩
  replace H1 := H1.on G6
  clear G6 c0 c1 c2 c3 c4
  obtain ⟨c0, c1, c2, c3, c4, -, -⟩ := id H1
  cases l with
  | false =>
    have hu : u = false := by cases u with | false => rfl | true => exact absurd (F4.out rfl).1 (by decide)
    have hss : s = false := by cases s with | false => rfl | true => exact absurd (F5.out rfl).1 (by decide)
    subst hu; subst hss
    cases t with
    | false =>
      by_cases k2 : a1_3 = 2
      · have n2 : (a1_3 != 2) = false := by subst k2; rfl
        have n0 : (a1_3 != 0) = true := by subst k2; rfl
        go_wp2_with fail
        go_ret
        exact ⟨rfl, gr_below H1.gr⟩
      · have n2 : (a1_3 != 2) = true := by simpa using k2
        by_cases k0 : a1_3 = 0
        · have n0 : (a1_3 != 0) = false := by subst k0; rfl
          go_wp2_with fail
          go_ret
          exact ⟨rfl, gr_below H1.gr⟩
        · have n0 : (a1_3 != 0) = true := by simpa using k0
          go_wp2_with fail
          go_ret
          exact ⟨rfl, gr_below H1.gr⟩
    | true =>
      have hv := F3.out rfl
      subst hv
      go_wp2_with fail
      refine (CV.out _).mono ?_
      rintro r w7 ⟨rfl, G7⟩
      replace H1 := H1.on G7
      clear G7 c0 c1 c2 c3 c4
      obtain ⟨c0, c1, c2, c3, c4, -, -⟩ := id H1
      by_cases k2 : a1_3 = 2
      · have n2 : (a1_3 != 2) = false := by subst k2; rfl
        have n0 : (a1_3 != 0) = true := by subst k2; rfl
        go_wp2_with fail
        go_ret
        exact ⟨rfl, gr_below H1.gr⟩
      · have n2 : (a1_3 != 2) = true := by simpa using k2
        by_cases k0 : a1_3 = 0
        · have n0 : (a1_3 != 0) = false := by subst k0; rfl
          go_wp2_with fail
          go_ret
          exact ⟨rfl, gr_below H1.gr⟩
        · have n0 : (a1_3 != 0) = true := by simpa using k0
          go_wp2_with fail
          go_ret
          exact ⟨rfl, gr_below H1.gr⟩
  | true =>
    have ht := F1.out rfl
    subst ht
    have hv := F2.out rfl
    subst hv
    go_wp2_with fail
    refine (CV.out _).mono ?_
    rintro r w7 ⟨rfl, G7⟩
    replace H1 := H1.on G7
    clear G7 c0 c1 c2 c3 c4
    obtain ⟨c0, c1, c2, c3, c4, -, -⟩ := id H1
    cases u with
    | false =>
      cases s with
      | false =>
        by_cases k2 : a1_3 = 2
        · have n2 : (a1_3 != 2) = false := by subst k2; rfl
          have n0 : (a1_3 != 0) = true := by subst k2; rfl
          go_wp2_with fail
          go_ret
          exact ⟨rfl, gr_below H1.gr⟩
        · have n2 : (a1_3 != 2) = true := by simpa using k2
          by_cases k0 : a1_3 = 0
          · have n0 : (a1_3 != 0) = false := by subst k0; rfl
            go_wp2_with fail
            go_ret
            exact ⟨rfl, gr_below H1.gr⟩
          · have n0 : (a1_3 != 0) = true := by simpa using k0
            go_wp2_with fail
            go_ret
            exact ⟨rfl, gr_below H1.gr⟩
      | true =>
        obtain ⟨-, g1, g2⟩ := F5.out rfl
        subst g2
        by_cases k2 : a1_3 = 2
        · have n2 : (a1_3 != 2) = false := by subst k2; rfl
          have n0 : (a1_3 != 0) = true := by subst k2; rfl
          go_wp2_with fail
          go_ret
          exact ⟨rfl, gr_below H1.gr⟩
        · have n2 : (a1_3 != 2) = true := by simpa using k2
          by_cases k0 : a1_3 = 0
          · have n0 : (a1_3 != 0) = false := by subst k0; rfl
            have g3 := F8.out rfl k0
            go_wp2_with fail
            go_ret
            exact ⟨rfl, gr_below H1.gr⟩
          · have n0 : (a1_3 != 0) = true := by simpa using k0
            go_wp2_with fail
            go_ret
            exact ⟨rfl, gr_below H1.gr⟩
    | true =>
      obtain ⟨-, g1, g2⟩ := F4.out rfl
      cases s with
      | false =>
        by_cases k2 : a1_3 = 2
        · have n2 : (a1_3 != 2) = false := by subst k2; rfl
          have n0 : (a1_3 != 0) = true := by subst k2; rfl
          obtain ⟨g3, g4⟩ := F7.out rfl k2
          go_wp2_with fail
          go_ret
          exact ⟨rfl, gr_below H1.gr⟩
        · have n2 : (a1_3 != 2) = true := by simpa using k2
          by_cases k0 : a1_3 = 0
          · have n0 : (a1_3 != 0) = false := by subst k0; rfl
            go_wp2_with fail
            go_ret
            exact ⟨rfl, gr_below H1.gr⟩
          · have n0 : (a1_3 != 0) = true := by simpa using k0
            go_wp2_with fail
            go_ret
            exact ⟨rfl, gr_below H1.gr⟩
      | true =>
        obtain ⟨-, -, g5⟩ := F5.out rfl
        subst g5
        obtain ⟨g6, g7⟩ := F6.out rfl rfl
        have n0 : (a1_3 != 0) = true := by simpa using g6
        have n0' : (a1_3 == 0) = false := by simpa using g6
        by_cases k2 : a1_3 = 2
        · have n2 : (a1_3 != 2) = false := by subst k2; rfl
          obtain ⟨g3, g4⟩ := F7.out rfl k2
          go_wp2_with fail
          go_ret
          exact ⟨rfl, gr_below H1.gr⟩
        · have n2 : (a1_3 != 2) = true := by simpa using k2
          go_wp2_with fail
          go_ret
          exact ⟨rfl, gr_below H1.gr⟩

theorem own : ownKnob Try.prog.godebug = none := by kernel_rfl
theorem laidOut : laidOutB Try.prog = true := by kernel_rfl

set_option maxRecDepth 100000 in
theorem lifted (os : Os) (started : os.Started) (H : Type) (enc : TypeId × Value → H) :
    ReturnsInHanded {} Try.checked os 4 .any (Rows.pteApartSpec.pre6 enc Try.prog Try.f4 Rows.pteApartRow.domain false) (Rows.pteApartSpec.post enc Try.prog Try.f4 false true false false) := by
  refine returnsInHanded_of_change (C := Try.checked) own started (by kernel_rfl) Try.func4
    (ChangeSpec.witness6 (enc := enc) (C := Try.checked) false ⟨#[], #[.int .u64 0, .agg #[.int .u64 0, .int .u64 0, .int .i64 0, .int .i64 0, .int .i64 0]], []⟩ 8 (by kernel_rfl) (by kernel_rfl) (by kernel_rfl) (by kernel_rfl)) ?_
  intro W base args ds gs before hval0 hW hcnd _
  have hval : ∀ (j : Nat) t v, Try.f4.params[j]? = some t → args[j]? = some v → Value.okWide Try.prog W .any base t v := hval0
  have hW' := hW
  obtain ⟨p, q, hA0, hV, rfl, hfz, hnd⟩ := hW
  have hA : DataW.TrodAll enc Try.prog W 0 (fun _ => true) true Try.f4.params.toList args.toList ds p := hA0
  rw [Try.params4] at hA hval
  obtain ⟨v0, vs0, d0, ds0, p0, q0, hargs, rfl, rfl, h0, r0⟩ := trodAll_cons hA
  obtain ⟨v1, vs1, d1, ds1, p1, q1, rfl, rfl, rfl, h1, r1⟩ := trodAll_cons r0
  obtain ⟨rfl, rfl, rfl⟩ := trodAll_nil r1
  obtain rfl : args = #[v0, v1] := by cases args; simp_all
  obtain ⟨rfl, rfl⟩ := trodVars_none hV
  clear hA0 hval0 hA
  have k0 := h0
  have lt0 : ∀ x ∈ p0, x.block < W.heap.size := by obtain ⟨m, hm⟩ := k0; exact DataW.trod_lt m _ _ _ hm
  obtain ⟨a0, rfl, rfl, rfl, w0⟩ := open_int Try.underlying22 (hval 0 22 v0 rfl rfl) h0
  have k1 := h1
  have lt1 : ∀ x ∈ p1, x.block < W.heap.size := by obtain ⟨m, hm⟩ := k1; exact DataW.trod_lt m _ _ _ hm
  obtain ⟨xs1, rfl, l1, m1, f1⟩ := Op.open_struct Try.underlying24 (hval 1 24 v1 rfl rfl) h1
  rw [show Try.prog.cellsOf 24 = 5 from by kernel_rfl] at l1
  obtain _ | ⟨c1_0, xs1⟩ := xs1
  · simp at l1
  obtain _ | ⟨c1_1, xs1⟩ := xs1
  · simp at l1
  obtain _ | ⟨c1_2, xs1⟩ := xs1
  · simp at l1
  obtain _ | ⟨c1_3, xs1⟩ := xs1
  · simp at l1
  obtain _ | ⟨c1_4, xs1⟩ := xs1
  · simp at l1
  obtain _ | ⟨_, _⟩ := xs1
  rotate_left
  · simp at l1
  clear h1
  obtain ⟨y1_0, g1_0⟩ := f1 0 _ rfl
  replace g1_0 : DataW.trod enc Try.prog W 0 (fun _ => true) true m1 22 [c1_0] = some y1_0 := g1_0
  obtain ⟨a1_0, e1_0, _, w1_0⟩ := DataW.trod_int Try.underlying22 g1_0
  simp at e1_0; subst e1_0
  obtain ⟨y1_1, g1_1⟩ := f1 1 _ rfl
  replace g1_1 : DataW.trod enc Try.prog W 0 (fun _ => true) true m1 22 [c1_1] = some y1_1 := g1_1
  obtain ⟨a1_1, e1_1, _, w1_1⟩ := DataW.trod_int Try.underlying22 g1_1
  simp at e1_1; subst e1_1
  obtain ⟨y1_2, g1_2⟩ := f1 2 _ rfl
  replace g1_2 : DataW.trod enc Try.prog W 0 (fun _ => true) true m1 3 [c1_2] = some y1_2 := g1_2
  obtain ⟨a1_2, e1_2, _, w1_2⟩ := DataW.trod_int Try.underlying3 g1_2
  simp at e1_2; subst e1_2
  obtain ⟨y1_3, g1_3⟩ := f1 3 _ rfl
  replace g1_3 : DataW.trod enc Try.prog W 0 (fun _ => true) true m1 3 [c1_3] = some y1_3 := g1_3
  obtain ⟨a1_3, e1_3, _, w1_3⟩ := DataW.trod_int Try.underlying3 g1_3
  simp at e1_3; subst e1_3
  obtain ⟨y1_4, g1_4⟩ := f1 4 _ rfl
  replace g1_4 : DataW.trod enc Try.prog W 0 (fun _ => true) true m1 3 [c1_4] = some y1_4 := g1_4
  obtain ⟨a1_4, e1_4, _, w1_4⟩ := DataW.trod_int Try.underlying3 g1_4
  simp at e1_4; subst e1_4
  refine (walk W a0 w0 a1_0 w1_0 a1_1 w1_1 a1_2 w1_2 a1_3 w1_3 a1_4 w1_4).mono fun e W' ⟨he, bel⟩ => ?_
  subst he
  exact ⟨_, rfl, _, _, _, [], _, [], hW', trodAll_mk1 (shut_bool Try.underlying4 _), (trodAll_cons_mk (Below.trod laidOut (by kernel_rfl) (of_decide_eq_true (by kernel_rfl)) k0 bel lt0) (trodAll_cons_mk (Below.trod laidOut (by kernel_rfl) (of_decide_eq_true (by kernel_rfl)) k1 bel lt1) trodAll_mk0)), rfl, bel.frame _, fun h => by cases h⟩

theorem over : Rows.pteApartRow.holds Try.pinned (OpenSpec.ofChange Rows.pteApartSpec) :=
  OpenClaim.holds_of_wide 4 Try.f4 rfl rfl rfl rfl rfl rfl rfl ⟨rfl, rfl, rfl, rfl, rfl⟩ rfl rfl rfl rfl rfl (by kernel_rfl) Try.func4 (by kernel_rfl)
    (of_decide_eq_true (by kernel_rfl)) (by unfold Func.isWrapper; first | (rw [if_pos (by decide +kernel)]; kernel_rfl) | (rw [if_neg (by decide +kernel)]; exact ⟨rfl, rfl⟩))
    (fun os started H enc _ => lifted os started H enc)

/-- The statement. -/
theorem proved : Rows.PteApartSaid := over
#print axioms proved

end Go.Proofs.Ytopicfmlnfnliaa.pteApart
