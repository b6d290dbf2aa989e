/-
  Proved: for any mask of harts that are there, one that is none, and any number of harts, the law MaskRefuses returns true: a mask with a hart that is none is refused in whole, and one more hart lets it.
  Conditions: none beyond the statement's own.
-/
import Derived.Test.YtgcjefgblodfmaaRows
import Derived.Test.YtgcjefgblodfmaaLayO
import Derived.Test.YtgcjefgblodfmaaMaskD
import Derived.Deep.Cut
namespace Go.Proofs.Ytgcjefgblodfmaa.maskRefuses
open Go Go.ChangeShapes Go.WideShapes Go.ChangeAt Go.RowKit W M A Mk
set_option linter.unusedVariables false

set_option maxRecDepth 100000 in
set_option maxHeartbeats 2000000 in
theorem walk (w : World) (a0 : Int) (w0 : (Lit.int .u8 a0).wf = true) (a1 : Int) (w1 : (Lit.int .u8 a1).wf = true) (a2 : Int) (w2 : (Lit.int .u8 a2).wf = true) :
    Calls Try.prog 6 #[.int .u8 a0, .int .u8 a1, .int .u8 a2] w fun e w' => e = .returned (.bool true) ∧ Below w.heap.size w w' := by
  have h0 := bounds_u8 w0
  have h1 := bounds_u8 w1
  have h2 := bounds_u8 w2
  clear w0 w1 w2
  obtain ⟨m, rfl⟩ : ∃ m : Nat, a0 = m := ⟨a0.toNat, by omega⟩
  obtain ⟨q, rfl⟩ : ∃ q : Nat, a1 = q := ⟨a1.toNat, by omega⟩
  obtain ⟨n, rfl⟩ : ∃ n : Nat, a2 = n := ⟨a2.toNat, by omega⟩
  obtain ⟨N, hN⟩ : ∃ N : Nat, N = 1 + n % 7 := ⟨_, rfl⟩
  have hN1 : 1 ≤ N ∧ N ≤ 7 := by omega
  have e1 : (1 : Int) + (n : Int) % 7 = (N : Int) := by omega
  obtain ⟨k, hk⟩ : ∃ k : Nat, k = N + q % (64 - N) := ⟨_, rfl⟩
  have hk1 : N ≤ k ∧ k < 64 := by
    have := Nat.mod_lt q (show 0 < 64 - N by omega)
    omega
  have e2 : (N : Int) + (q : Int) % (64 - (N : Int)) = (k : Int) := by
    rw [show (64 - (N : Int)) = ((64 - N : Nat) : Int) by omega, hk]; simp
  have hP1 : 2 ^ N ≤ 128 := Nat.pow_le_pow_right (n := 2) (show 0 < 2 by omega) (show N ≤ 7 by omega)
  have hP0 : 0 < 2 ^ N := Nat.pow_pos (by omega)
  have e3 := wrap_pow (k := N) (by omega)
  have e4 := wrap_pow (k := k) (by omega)
  have hL1 := Nat.mod_lt m hP0
  have e5 : (m : Int) % ((2 ^ N : Nat) : Int) = ((m % 2 ^ N : Nat) : Int) := by simp
  obtain ⟨L, hL⟩ : ∃ L : Nat, m % 2 ^ N = L := ⟨_, rfl⟩
  rw [hL] at hL1 e5
  have hX := or_pow (L := L) (k := k) (by omega) (by omega)
  have hY := or_pow (L := L) (k := N) (by omega) (by omega)
  have t1 := or_there hL1 (show N ≤ 8 by omega) hk1.2
  rw [decide_eq_false (by omega)] at t1
  have t2 := low_there hL1
  have t3 := or_there (k := N) (Nat.lt_of_lt_of_le hL1 (Nat.pow_le_pow_right (n := 2) (show 0 < 2 by omega) (Nat.le_add_right N 1))) (show N + 1 ≤ 8 by omega) (by omega)
  rw [decide_eq_true (by omega)] at t3
  have C1 := Lib.hid (fun W => Harts_c (L ||| 2 ^ k) 0 (N : Int) hX.2 (by decide) (by omega) W)
  have C2 := Lib.hid (fun W => Harts_c L 0 (N : Int) (by omega) (by decide) (by omega) W)
  have C3 := Lib.hid (fun W => Harts_c (L ||| 2 ^ N) 0 ((N + 1 : Nat) : Int) hY.2 (by decide) (by omega) W)
  rw [harts_zero, many_nat (by omega), ans_none t1] at C1
  rw [harts_zero, many_nat (by omega), ans_snd, t2] at C2
  rw [harts_zero, many_nat (by omega), ans_snd, t3] at C3
  have e6 := hX.1
  have e7 := hY.1
  clear hX hY t1 t2 t3 hL hL1 hk
  generalize L ||| 2 ^ k = X at *
  generalize L ||| 2 ^ N = Y at *
  generalize 2 ^ k = K at *
  generalize 2 ^ N = P at *
  rw [show ((N + 1 : Nat) : Int) = (N : Int) + 1 by omega] at C3
  clear hN
  go_enter Try.func6, Try.ntmps6
  go_wp2_with fail
  refine (shown16_c _).mono ?_
  rintro e w1 ⟨rfl, hG⟩
  have HG := Lib.hid hG
  clear hG
  go_wp2_with fail
  refine (C1.out _).mono ?_
  rintro e w2 ⟨v1, rfl, hA, hG⟩
  obtain ⟨A, cap, rfl⟩ := hA.form
  have HG2 := Lib.hid (gr_trans HG.out hG)
  clear hG hA HG
  go_wp2_with fail
  refine (C2.out _).mono ?_
  rintro e w3 ⟨v2, rfl, hA, hG⟩
  have HG3 := Lib.hid (gr_trans HG2.out hG)
  clear hG hA HG2
  go_wp2_with fail
  refine (C3.out _).mono ?_
  rintro e w4 ⟨v3, rfl, hA, hG⟩
  have HG4 := Lib.hid (gr_trans HG3.out hG)
  clear hG hA HG3
  go_wp2_with fail
  go_ret
  exact ⟨rfl, gr_below HG4.out⟩

theorem own : ownKnob Try.prog.godebug = none := by kernel_rfl
theorem laidOut : laidOutB Try.prog = true := by kernel_rfl

set_option maxRecDepth 100000 in
theorem lifted (os : Os) (started : os.Started) (H : Type) (enc : TypeId × Value → H) :
    ReturnsInHanded {} Try.checked os 6 .any (Rows.maskRefusesSpec.pre6 enc Try.prog Try.f6 Rows.maskRefusesRow.domain false) (Rows.maskRefusesSpec.post enc Try.prog Try.f6 false true false false) := by
  refine returnsInHanded_of_change (C := Try.checked) own started (by kernel_rfl) Try.func6
    (ChangeSpec.witness6 (enc := enc) (C := Try.checked) false ⟨#[], #[.int .u8 0, .int .u8 0, .int .u8 0], []⟩ 8 (by kernel_rfl) (by kernel_rfl) (by kernel_rfl) (by kernel_rfl)) ?_
  intro W base args ds gs before hval0 hW hcnd _
  have hval : ∀ (j : Nat) t v, Try.f6.params[j]? = some t → args[j]? = some v → Value.okWide Try.prog W .any base t v := hval0
  have hW' := hW
  obtain ⟨p, q, hA0, hV, rfl, hfz, hnd⟩ := hW
  have hA : DataW.TrodAll enc Try.prog W 0 (fun _ => true) true Try.f6.params.toList args.toList ds p := hA0
  rw [Try.params6] at hA hval
  obtain ⟨v0, vs0, d0, ds0, p0, q0, hargs, rfl, rfl, h0, r0⟩ := trodAll_cons hA
  obtain ⟨v1, vs1, d1, ds1, p1, q1, rfl, rfl, rfl, h1, r1⟩ := trodAll_cons r0
  obtain ⟨v2, vs2, d2, ds2, p2, q2, rfl, rfl, rfl, h2, r2⟩ := trodAll_cons r1
  obtain ⟨rfl, rfl, rfl⟩ := trodAll_nil r2
  obtain rfl : args = #[v0, v1, v2] := by cases args; simp_all
  obtain ⟨rfl, rfl⟩ := trodVars_none hV
  clear hA0 hval0 hA
  have k0 := h0
  have lt0 : ∀ x ∈ p0, x.block < W.heap.size := by obtain ⟨m, hm⟩ := k0; exact DataW.trod_lt m _ _ _ hm
  obtain ⟨a0, rfl, rfl, rfl, w0⟩ := open_int Try.underlying5 (hval 0 5 v0 rfl rfl) h0
  have k1 := h1
  have lt1 : ∀ x ∈ p1, x.block < W.heap.size := by obtain ⟨m, hm⟩ := k1; exact DataW.trod_lt m _ _ _ hm
  obtain ⟨a1, rfl, rfl, rfl, w1⟩ := open_int Try.underlying5 (hval 1 5 v1 rfl rfl) h1
  have k2 := h2
  have lt2 : ∀ x ∈ p2, x.block < W.heap.size := by obtain ⟨m, hm⟩ := k2; exact DataW.trod_lt m _ _ _ hm
  obtain ⟨a2, rfl, rfl, rfl, w2⟩ := open_int Try.underlying5 (hval 2 5 v2 rfl rfl) h2
  refine (walk W a0 w0 a1 w1 a2 w2).mono fun e W' ⟨he, bel⟩ => ?_
  subst he
  exact ⟨_, rfl, _, _, _, [], _, [], hW', trodAll_mk1 (shut_bool Try.underlying4 _), (trodAll_cons_mk (Below.trod laidOut (by kernel_rfl) (of_decide_eq_true (by kernel_rfl)) k0 bel lt0) (trodAll_cons_mk (Below.trod laidOut (by kernel_rfl) (of_decide_eq_true (by kernel_rfl)) k1 bel lt1) (trodAll_cons_mk (Below.trod laidOut (by kernel_rfl) (of_decide_eq_true (by kernel_rfl)) k2 bel lt2) trodAll_mk0))), rfl, bel.frame _, fun h => by cases h⟩

theorem over : Rows.maskRefusesRow.holds Try.pinned (OpenSpec.ofChange Rows.maskRefusesSpec) :=
  OpenClaim.holds_of_wide 6 Try.f6 rfl rfl rfl rfl rfl rfl rfl ⟨rfl, rfl, rfl, rfl, rfl⟩ rfl rfl rfl rfl rfl (by kernel_rfl) Try.func6 (by kernel_rfl)
    (of_decide_eq_true (by kernel_rfl)) (by unfold Func.isWrapper; first | (rw [if_pos (by decide +kernel)]; kernel_rfl) | (rw [if_neg (by decide +kernel)]; exact ⟨rfl, rfl⟩))
    (fun os started H enc _ => lifted os started H enc)

/-- The statement. -/
theorem proved : Rows.MaskRefusesSaid := over
#print axioms proved

end Go.Proofs.Ytgcjefgblodfmaa.maskRefuses
