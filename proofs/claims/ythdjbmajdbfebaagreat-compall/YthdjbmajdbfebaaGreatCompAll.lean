/-
  Proved: for any half and any word, the law CompAll returns true: any 16 bits, and any word, are the instruction that the document says, or none.
  Conditions: none beyond the statement's own.
-/
import Derived.Test.YthdjbmajdbfebaaGreatRows
import Derived.Test.YthdjbmajdbfebaaGreatOpen
import Derived.Lib.Hide
import Derived.Test.YthdjbmajdbfebaaGreatCompI
import Derived.Test.YthdjbmajdbfebaaGreatCompQ
namespace Go.Proofs.YthdjbmajdbfebaaGreat.compAll
open Go Go.ChangeShapes Go.WideShapes Go.ChangeAt Go.RowKit F W M D refWord refHalf
set_option linter.unusedVariables false

theorem rHalf_at {h : Nat} {o rd rs1 rs2 im : Int} (hh : h < 65536) (hV : halfV h = (o, rd, rs1, rs2, im)) (w : World) :
    Calls Tryz.prog 6 #[.int .u16 h] w fun e w' => e = .returned (.agg #[.int .i64 o, .int .i64 rd, .int .i64 rs1, .int .i64 rs2, .int .i64 im, .int .i64 2]) ∧ w.grownBy w' none := by
  have := rHalf_c h hh w
  rw [hV] at this
  exact this
/-- Any, the program's and the document's, at a word: one answer. -/
theorem both (x : Nat) (hx : x < 4294967296) : ∃ o rd rs1 rs2 im n : Int,
    (∀ w, Calls Tryz.prog 7 #[.int .u32 x] w fun e w' => e = .returned (.agg #[.int .i64 o, .int .i64 rd, .int .i64 rs1, .int .i64 rs2, .int .i64 im, .int .i64 n]) ∧ w.grownBy w' none) ∧
    (∀ w, Calls Tryz.prog 8 #[.int .u32 x] w fun e w' => e = .returned (.agg #[.int .i64 o, .int .i64 rd, .int .i64 rs1, .int .i64 rs2, .int .i64 im, .int .i64 n]) ∧ w.grownBy w' none) := by
  by_cases h3 : x % 4 = 3
  · exact ⟨_, _, _, _, _, 4, fun w => Any_word hx h3 rfl w, fun w => rAny_word x hx h3 w⟩
  · exact ⟨_, _, _, _, _, 2, fun w => Any_half hx h3 rfl w, fun w => rAny_half x hx h3 w⟩
set_option maxRecDepth 100000 in
set_option maxHeartbeats 2000000 in
theorem walk (w : World) (a0 : Int) (w0 : (Lit.int .u16 a0).wf = true) (a1 : Int) (w1 : (Lit.int .u32 a1).wf = true) :
    Calls Tryz.prog 3 #[.int .u16 a0, .int .u32 a1] w fun e w' => e = .returned (.bool true) ∧ Below w.heap.size w w' := by
  have h0 := bounds_u16 w0
  have h1 := bounds_u32 w1
  clear w0 w1
  obtain ⟨h, rfl⟩ : ∃ h : Nat, a0 = h := ⟨a0.toNat, by omega⟩
  obtain ⟨x, rfl⟩ : ∃ x : Nat, a1 = x := ⟨a1.toNat, by omega⟩
  obtain ⟨o, rd, rs1, rs2, im, hV⟩ : ∃ o rd rs1 rs2 im, halfV h = (o, rd, rs1, rs2, im) := ⟨_, _, _, _, _, rfl⟩
  have HH := Lib.hid (fun W => Half_at (show h < 65536 by omega) hV W)
  have HR := Lib.hid (fun W => rHalf_at (show h < 65536 by omega) hV W)
  obtain ⟨p, pd, p1, p2, pm, pn, ha, hr⟩ := both x (by omega)
  have HA := Lib.hid ha
  have HB := Lib.hid hr
  clear ha hr hV
  go_enter Tryz.func3, Tryz.ntmps3
  go_wp2_with fail
  refine (shown05_c _).mono ?_
  rintro e w1 ⟨rfl, hG1⟩
  go_wp2_with fail
  refine (HH.out _).mono ?_
  rintro e w2 ⟨rfl, hG2⟩
  go_wp2_with fail
  refine (HR.out _).mono ?_
  rintro e w3 ⟨rfl, hG3⟩
  go_wp2_with fail
  refine (HA.out _).mono ?_
  rintro e w4 ⟨rfl, hG4⟩
  go_wp2_with fail
  refine (HB.out _).mono ?_
  rintro e w5 ⟨rfl, hG5⟩
  go_wp2_with fail
  go_ret
  exact ⟨rfl, gr_below (gr_trans (gr_trans (gr_trans (gr_trans hG1 hG2) hG3) hG4) hG5)⟩

theorem own : ownKnob Tryz.prog.godebug = none := by kernel_rfl
theorem laidOut : laidOutB Tryz.prog = true := by kernel_rfl

set_option maxRecDepth 100000 in
theorem lifted (os : Os) (started : os.Started) (H : Type) (enc : TypeId × Value → H) :
    ReturnsInHanded {} Tryz.checked os 3 .any (Rows.compAllSpec.pre6 enc Tryz.prog Tryz.f3 Rows.compAllRow.domain false) (Rows.compAllSpec.post enc Tryz.prog Tryz.f3 false true false false) := by
  refine returnsInHanded_of_change (C := Tryz.checked) own started (by kernel_rfl) Tryz.func3
    (ChangeSpec.witness6 (enc := enc) (C := Tryz.checked) false ⟨#[], #[.int .u16 0, .int .u32 0], []⟩ 8 (by kernel_rfl) (by kernel_rfl) (by kernel_rfl) (by kernel_rfl)) ?_
  intro W base args ds gs before hval0 hW hcnd _
  have hval : ∀ (j : Nat) t v, Tryz.f3.params[j]? = some t → args[j]? = some v → Value.okWide Tryz.prog W .any base t v := hval0
  have hW' := hW
  obtain ⟨p, q, hA0, hV, rfl, hfz, hnd⟩ := hW
  have hA : DataW.TrodAll enc Tryz.prog W 0 (fun _ => true) true Tryz.f3.params.toList args.toList ds p := hA0
  rw [Tryz.params3] at hA hval
  obtain ⟨v0, vs0, d0, ds0, p0, q0, hargs, rfl, rfl, h0, r0⟩ := trodAll_cons hA
  obtain ⟨v1, vs1, d1, ds1, p1, q1, rfl, rfl, rfl, h1, r1⟩ := trodAll_cons r0
  obtain ⟨rfl, rfl, rfl⟩ := trodAll_nil r1
  obtain rfl : args = #[v0, v1] := by cases args; simp_all
  obtain ⟨rfl, rfl⟩ := trodVars_none hV
  clear hA0 hval0 hA
  have k0 := h0
  have lt0 : ∀ x ∈ p0, x.block < W.heap.size := by obtain ⟨m, hm⟩ := k0; exact DataW.trod_lt m _ _ _ hm
  obtain ⟨a0, rfl, rfl, rfl, w0⟩ := open_int Tryz.underlying22 (hval 0 22 v0 rfl rfl) h0
  have k1 := h1
  have lt1 : ∀ x ∈ p1, x.block < W.heap.size := by obtain ⟨m, hm⟩ := k1; exact DataW.trod_lt m _ _ _ hm
  obtain ⟨a1, rfl, rfl, rfl, w1⟩ := open_int Tryz.underlying23 (hval 1 23 v1 rfl rfl) h1
  refine (walk W a0 w0 a1 w1).mono fun e W' ⟨he, bel⟩ => ?_
  subst he
  exact ⟨_, rfl, _, _, _, [], _, [], hW', trodAll_mk1 (shut_bool Tryz.underlying4 _), (trodAll_cons_mk (Below.trod laidOut (by kernel_rfl) (of_decide_eq_true (by kernel_rfl)) k0 bel lt0) (trodAll_cons_mk (Below.trod laidOut (by kernel_rfl) (of_decide_eq_true (by kernel_rfl)) k1 bel lt1) trodAll_mk0)), rfl, bel.frame _, fun h => by cases h⟩

theorem over : Rows.compAllRow.holds Tryz.pinned (OpenSpec.ofChange Rows.compAllSpec) :=
  OpenClaim.holds_of_wide 3 Tryz.f3 rfl rfl rfl rfl rfl rfl rfl ⟨rfl, rfl, rfl, rfl, rfl⟩ rfl rfl rfl rfl rfl (by kernel_rfl) Tryz.func3 (by kernel_rfl)
    (of_decide_eq_true (by kernel_rfl)) (by unfold Func.isWrapper; first | (rw [if_pos (by decide +kernel)]; kernel_rfl) | (rw [if_neg (by decide +kernel)]; exact ⟨rfl, rfl⟩))
    (fun os started H enc _ => lifted os started H enc)

/-- The statement. -/
theorem proved : Rows.CompAllSaid := over
#print axioms proved

end Go.Proofs.YthdjbmajdbfebaaGreat.compAll
