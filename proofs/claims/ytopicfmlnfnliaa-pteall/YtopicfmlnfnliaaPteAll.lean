/-
  Proved: for any entry, any page, and any address, level, kind, privilege and status, the law PteAll returns true: what an entry is, what may be done by it, and which address it makes, are the document's own.
  Conditions: none beyond the statement's own.
-/
import Derived.Test.YtopicfmlnfnliaaRows
import Derived.Test.YtopicfmlnfnliaaOpen
import Derived.Lib.Hide
import Derived.Deep.RegionHeld3
import Derived.Test.YtopicfmlnfnliaaPteLw
import Derived.Test.YtopicfmlnfnliaaPteR2
namespace Go.Proofs.Ytopicfmlnfnliaa.pteAll
open Go Go.ChangeShapes Go.WideShapes Go.ChangeAt Go.RowKit W M D A P
set_option linter.unusedVariables false

set_option maxRecDepth 100000 in
set_option maxHeartbeats 8000000 in
theorem walk (w : World) (a0 : Int) (w0 : (Lit.int .u64 a0).wf = true) (a1 : Int) (w1 : (Lit.int .u64 a1).wf = true) (a2_0 : Int) (w2_0 : (Lit.int .u64 a2_0).wf = true) (a2_1 : Int) (w2_1 : (Lit.int .u64 a2_1).wf = true) (a2_2 : Int) (w2_2 : (Lit.int .i64 a2_2).wf = true) (a2_3 : Int) (w2_3 : (Lit.int .i64 a2_3).wf = true) (a2_4 : Int) (w2_4 : (Lit.int .i64 a2_4).wf = true) :
    Calls Try.prog 3 #[.int .u64 a0, .int .u64 a1, .agg #[.int .u64 a2_0, .int .u64 a2_1, .int .i64 a2_2, .int .i64 a2_3, .int .i64 a2_4]] w fun e w' => e = .returned (.bool true) ∧ Below w.heap.size w w' := by
  have he : B64 a0 := bounds_u64 w0
  have hp : B64 a1 := bounds_u64 w1
  have hv : B64 a2_0 := bounds_u64 w2_0
  have hs : B64 a2_1 := bounds_u64 w2_1
  have hn : I64 a2_2 := bounds_i64 w2_2
  have hk : I64 a2_3 := bounds_i64 w2_3
  have hr : I64 a2_4 := bounds_i64 w2_4
  clear w0 w1 w2_0 w2_1 w2_2 w2_3 w2_4
  have C1 := Lib.hid (fun W => Make_c a1 a0 hp he W)
  have D1 := Lib.hid (fun W => rMake_c a1 a0 hp he W)
  have C2 := Lib.hid (fun W => Page_c a0 he W)
  have D2 := Lib.hid (fun W => rPage_c a0 he W)
  have C3 := Lib.hid (fun W => Valid_c a0 he W)
  have D3 := Lib.hid (fun W => rValid_c a0 he W)
  have C4 := Lib.hid (fun W => Leaf_c a0 he W)
  have D4 := Lib.hid (fun W => rLeaf_c a0 he W)
  have C5 := Lib.hid (fun W => Table_c a0 he W)
  have D5 := Lib.hid (fun W => rTable_c a0 he W)
  have C6 := Lib.hid (fun W => psame (Aligned_c a0 a2_2 he hn W))
  have D6 := Lib.hid (fun W => rAligned_c a0 a2_2 he hn W)
  have C7 := Lib.hid (fun W => May_c a0 a2_3 a2_4 a2_1 he hk hr hs W)
  have D7 := Lib.hid (fun W => psame (rMay_c a0 a2_3 a2_4 a2_1 he hk hr hs W))
  have C8 := Lib.hid (fun W => psame (At_c a0 a2_0 a2_2 he hv hn W))
  have D8 := Lib.hid (fun W => rAt_c a0 a2_0 a2_2 he hv hn W)
  have C9 := Lib.hid (fun W => psame (Vpn_c a2_0 a2_2 hv hn W))
  have D9 := Lib.hid (fun W => psame (rVpn_c a2_0 a2_2 hv hn W))
  have C10 := Lib.hid (fun W => psame (Canonical_c a2_0 hv W))
  have D10 := Lib.hid (fun W => psame (rCanonical_c a2_0 hv W))
  generalize makeV a1 a0 = v1 at *
  generalize pageV a0 = v2 at *
  generalize validV a0 = v3 at *
  generalize leafV a0 = v4 at *
  generalize tableV a0 = v5 at *
  generalize alignedV a0 a2_2 = v6 at *
  generalize mayV a0 a2_3 a2_4 a2_1 = v7 at *
  generalize atV a0 a2_0 a2_2 = v8 at *
  generalize vpnV a2_0 a2_2 = v9 at *
  generalize canonV a2_0 = v10 at *
  have H0 := Lib.hid (pheld_fresh w a2_0 a2_1 a2_2 a2_3 a2_4)
  unfold B64 at *
  unfold I64 at *
  go_enter Try.func3, Try.ntmps3
  go_wp2_with fail
  refine (shown10_c _).mono ?_
  rintro e w1 ⟨rfl, hG⟩
  have H1 := Lib.hid (H0.out.on hG)
  clear H0 hG
  go_wp2_with fail
  refine (C1.out _).mono ?_
  rintro r w' ⟨rfl, rfl⟩
  go_wp2_with fail
  refine (D1.out _).mono ?_
  rintro r w' ⟨rfl, rfl⟩
  go_wp2_with fail
  refine (C2.out _).mono ?_
  rintro r w' ⟨rfl, rfl⟩
  go_wp2_with fail
  refine (D2.out _).mono ?_
  rintro r w' ⟨rfl, rfl⟩
  go_wp2_with fail
  refine (C3.out _).mono ?_
  rintro r w2 ⟨rfl, G2⟩
  go_wp2_with fail
  refine (D3.out _).mono ?_
  rintro r w' ⟨rfl, rfl⟩
  go_wp2_with fail
  refine (C4.out _).mono ?_
  rintro r w3 ⟨rfl, G3⟩
  go_wp2_with fail
  refine (D4.out _).mono ?_
  rintro r w' ⟨rfl, rfl⟩
  go_wp2_with fail
  refine (C5.out _).mono ?_
  rintro r w4 ⟨rfl, G4⟩
  go_wp2_with fail
  refine (D5.out _).mono ?_
  rintro r w' ⟨rfl, rfl⟩
  have H2 := H1.out.on (gr_trans (gr_trans G2 G3) G4)
  clear H1 G2 G3 G4
  unfold PHeld at H2
  go_wp2_with fail
  generalize w.heap.size = b at *
  go_region_held3 (fun w' => w'.cell? ⟨b, 0, none⟩ = some (.int .u64 a2_0) ∧ w'.cell? ⟨b, 1, none⟩ = some (.int .u64 a2_1) ∧ w'.cell? ⟨b, 2, none⟩ = some (.int .i64 a2_2) ∧ w'.cell? ⟨b, 3, none⟩ = some (.int .i64 a2_3) ∧ w'.cell? ⟨b, 4, none⟩ = some (.int .i64 a2_4) ∧ Row w' b 24 [.int .u64 a2_0, .int .u64 a2_1, .int .i64 a2_2, .int .i64 a2_3, .int .i64 a2_4] ∧ w.grownBy w' none)
    (first | assumption | (exact PHeld.on (gr_drew (gr_refl _ none)) (by assumption)) | (exact PHeld.on (by assumption) (by assumption)))
    (first
      | (go_at_call 18; refine (C6.out _).mono ?_; rintro e w' ⟨rfl, hg⟩)
      | (go_at_call 19; refine (D6.out _).mono ?_; rintro e w' ⟨rfl, hg⟩)
      | (go_at_call 20; refine (C7.out _).mono ?_; rintro e w' ⟨rfl, hg⟩)
      | (go_at_call 21; refine (D7.out _).mono ?_; rintro e w' ⟨rfl, hg⟩))
  rename_i hHeld
  clear H2
  go_wp2_with fail
  go_region_held3 (fun w' => w'.cell? ⟨b, 0, none⟩ = some (.int .u64 a2_0) ∧ w'.cell? ⟨b, 1, none⟩ = some (.int .u64 a2_1) ∧ w'.cell? ⟨b, 2, none⟩ = some (.int .i64 a2_2) ∧ w'.cell? ⟨b, 3, none⟩ = some (.int .i64 a2_3) ∧ w'.cell? ⟨b, 4, none⟩ = some (.int .i64 a2_4) ∧ Row w' b 24 [.int .u64 a2_0, .int .u64 a2_1, .int .i64 a2_2, .int .i64 a2_3, .int .i64 a2_4] ∧ w.grownBy w' none)
    (first | assumption | (exact PHeld.on (gr_drew (gr_refl _ none)) (by assumption)) | (exact PHeld.on (by assumption) (by assumption)))
    (first
      | (go_at_call 22; refine (C8.out _).mono ?_; rintro e w' ⟨rfl, hg⟩)
      | (go_at_call 23; refine (D8.out _).mono ?_; rintro e w' ⟨rfl, hg⟩)
      | (go_at_call 24; refine (C9.out _).mono ?_; rintro e w' ⟨rfl, hg⟩)
      | (go_at_call 25; refine (D9.out _).mono ?_; rintro e w' ⟨rfl, hg⟩)
      | (go_at_call 26; refine (C10.out _).mono ?_; rintro e w' ⟨rfl, hg⟩)
      | (go_at_call 27; refine (D10.out _).mono ?_; rintro e w' ⟨rfl, hg⟩))
  rename_i hHeld2
  have hBe := PHeld.gr hHeld2
  go_wp2_with fail
  go_ret
  exact ⟨rfl, gr_below hBe⟩

theorem own : ownKnob Try.prog.godebug = none := by kernel_rfl
theorem laidOut : laidOutB Try.prog = true := by kernel_rfl

set_option maxRecDepth 100000 in
theorem lifted (os : Os) (started : os.Started) (H : Type) (enc : TypeId × Value → H) :
    ReturnsInHanded {} Try.checked os 3 .any (Rows.pteAllSpec.pre6 enc Try.prog Try.f3 Rows.pteAllRow.domain false) (Rows.pteAllSpec.post enc Try.prog Try.f3 false true false false) := by
  refine returnsInHanded_of_change (C := Try.checked) own started (by kernel_rfl) Try.func3
    (ChangeSpec.witness6 (enc := enc) (C := Try.checked) false ⟨#[], #[.int .u64 0, .int .u64 0, .agg #[.int .u64 0, .int .u64 0, .int .i64 0, .int .i64 0, .int .i64 0]], []⟩ 8 (by kernel_rfl) (by kernel_rfl) (by kernel_rfl) (by kernel_rfl)) ?_
  intro W base args ds gs before hval0 hW hcnd _
  have hval : ∀ (j : Nat) t v, Try.f3.params[j]? = some t → args[j]? = some v → Value.okWide Try.prog W .any base t v := hval0
  have hW' := hW
  obtain ⟨p, q, hA0, hV, rfl, hfz, hnd⟩ := hW
  have hA : DataW.TrodAll enc Try.prog W 0 (fun _ => true) true Try.f3.params.toList args.toList ds p := hA0
  rw [Try.params3] at hA hval
  obtain ⟨v0, vs0, d0, ds0, p0, q0, hargs, rfl, rfl, h0, r0⟩ := trodAll_cons hA
  obtain ⟨v1, vs1, d1, ds1, p1, q1, rfl, rfl, rfl, h1, r1⟩ := trodAll_cons r0
  obtain ⟨v2, vs2, d2, ds2, p2, q2, rfl, rfl, rfl, h2, r2⟩ := trodAll_cons r1
  obtain ⟨rfl, rfl, rfl⟩ := trodAll_nil r2
  obtain rfl : args = #[v0, v1, v2] := by cases args; simp_all
  obtain ⟨rfl, rfl⟩ := trodVars_none hV
  clear hA0 hval0 hA
  have k0 := h0
  have lt0 : ∀ x ∈ p0, x.block < W.heap.size := by obtain ⟨m, hm⟩ := k0; exact DataW.trod_lt m _ _ _ hm
  obtain ⟨a0, rfl, rfl, rfl, w0⟩ := open_int Try.underlying22 (hval 0 22 v0 rfl rfl) h0
  have k1 := h1
  have lt1 : ∀ x ∈ p1, x.block < W.heap.size := by obtain ⟨m, hm⟩ := k1; exact DataW.trod_lt m _ _ _ hm
  obtain ⟨a1, rfl, rfl, rfl, w1⟩ := open_int Try.underlying22 (hval 1 22 v1 rfl rfl) h1
  have k2 := h2
  have lt2 : ∀ x ∈ p2, x.block < W.heap.size := by obtain ⟨m, hm⟩ := k2; exact DataW.trod_lt m _ _ _ hm
  obtain ⟨xs2, rfl, l2, m2, f2⟩ := Op.open_struct Try.underlying24 (hval 2 24 v2 rfl rfl) h2
  rw [show Try.prog.cellsOf 24 = 5 from by kernel_rfl] at l2
  obtain _ | ⟨c2_0, xs2⟩ := xs2
  · simp at l2
  obtain _ | ⟨c2_1, xs2⟩ := xs2
  · simp at l2
  obtain _ | ⟨c2_2, xs2⟩ := xs2
  · simp at l2
  obtain _ | ⟨c2_3, xs2⟩ := xs2
  · simp at l2
  obtain _ | ⟨c2_4, xs2⟩ := xs2
  · simp at l2
  obtain _ | ⟨_, _⟩ := xs2
  rotate_left
  · simp at l2
  clear h2
  obtain ⟨y2_0, g2_0⟩ := f2 0 _ rfl
  replace g2_0 : DataW.trod enc Try.prog W 0 (fun _ => true) true m2 22 [c2_0] = some y2_0 := g2_0
  obtain ⟨a2_0, e2_0, _, w2_0⟩ := DataW.trod_int Try.underlying22 g2_0
  simp at e2_0; subst e2_0
  obtain ⟨y2_1, g2_1⟩ := f2 1 _ rfl
  replace g2_1 : DataW.trod enc Try.prog W 0 (fun _ => true) true m2 22 [c2_1] = some y2_1 := g2_1
  obtain ⟨a2_1, e2_1, _, w2_1⟩ := DataW.trod_int Try.underlying22 g2_1
  simp at e2_1; subst e2_1
  obtain ⟨y2_2, g2_2⟩ := f2 2 _ rfl
  replace g2_2 : DataW.trod enc Try.prog W 0 (fun _ => true) true m2 3 [c2_2] = some y2_2 := g2_2
  obtain ⟨a2_2, e2_2, _, w2_2⟩ := DataW.trod_int Try.underlying3 g2_2
  simp at e2_2; subst e2_2
  obtain ⟨y2_3, g2_3⟩ := f2 3 _ rfl
  replace g2_3 : DataW.trod enc Try.prog W 0 (fun _ => true) true m2 3 [c2_3] = some y2_3 := g2_3
  obtain ⟨a2_3, e2_3, _, w2_3⟩ := DataW.trod_int Try.underlying3 g2_3
  simp at e2_3; subst e2_3
  obtain ⟨y2_4, g2_4⟩ := f2 4 _ rfl
  replace g2_4 : DataW.trod enc Try.prog W 0 (fun _ => true) true m2 3 [c2_4] = some y2_4 := g2_4
  obtain ⟨a2_4, e2_4, _, w2_4⟩ := DataW.trod_int Try.underlying3 g2_4
  simp at e2_4; subst e2_4
  refine (walk W a0 w0 a1 w1 a2_0 w2_0 a2_1 w2_1 a2_2 w2_2 a2_3 w2_3 a2_4 w2_4).mono fun e W' ⟨he, bel⟩ => ?_
  subst he
  exact ⟨_, rfl, _, _, _, [], _, [], hW', trodAll_mk1 (shut_bool Try.underlying4 _), (trodAll_cons_mk (Below.trod laidOut (by kernel_rfl) (of_decide_eq_true (by kernel_rfl)) k0 bel lt0) (trodAll_cons_mk (Below.trod laidOut (by kernel_rfl) (of_decide_eq_true (by kernel_rfl)) k1 bel lt1) (trodAll_cons_mk (Below.trod laidOut (by kernel_rfl) (of_decide_eq_true (by kernel_rfl)) k2 bel lt2) trodAll_mk0))), rfl, bel.frame _, fun h => by cases h⟩

theorem over : Rows.pteAllRow.holds Try.pinned (OpenSpec.ofChange Rows.pteAllSpec) :=
  OpenClaim.holds_of_wide 3 Try.f3 rfl rfl rfl rfl rfl rfl rfl ⟨rfl, rfl, rfl, rfl, rfl⟩ rfl rfl rfl rfl rfl (by kernel_rfl) Try.func3 (by kernel_rfl)
    (of_decide_eq_true (by kernel_rfl)) (by unfold Func.isWrapper; first | (rw [if_pos (by decide +kernel)]; kernel_rfl) | (rw [if_neg (by decide +kernel)]; exact ⟨rfl, rfl⟩))
    (fun os started H enc _ => lifted os started H enc)

/-- The statement. -/
theorem proved : Rows.PteAllSaid := over
#print axioms proved

end Go.Proofs.Ytopicfmlnfnliaa.pteAll
