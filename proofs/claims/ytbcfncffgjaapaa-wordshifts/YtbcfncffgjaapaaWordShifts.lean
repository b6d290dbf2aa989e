/-
  Proved: for any number of 64 bits, and any two shifts, the law WordShifts returns true.
  Conditions: none beyond the statement's own.
-/
import Derived.Test.YtbcfncffgjaapaaRows
import Derived.Test.YtbcfncffgjaapaaOpen
import Derived.Lib.Hide
import Derived.Test.YtbcfncffgjaapaaWordLaw
import Derived.Test.YtbcfncffgjaapaaWordS
namespace Go.Proofs.Ytbcfncffgjaapaa.wordShifts
open Go Go.ChangeShapes Go.WideShapes Go.ChangeAt Go.RowKit W
set_option linter.unusedVariables false

theorem below_alloc1 (w : World) (o1 : Obj) : Below w.heap.size w (w.alloc o1) := (Below.refl _ _).alloc (Nat.le_refl _) o1

set_option maxHeartbeats 1000000 in
theorem walk (a0 : Int) (w0 : (Lit.int .u64 a0).wf = true) (a1_0 : Int) (w1_0 : (Lit.int .u8 a1_0).wf = true) (a1_1 : Int) (w1_1 : (Lit.int .u8 a1_1).wf = true) (w : World) :
    Calls Try.prog 7 #[.int .u64 a0, .agg #[.int .u8 a1_0, .int .u8 a1_1]] w fun e w' => e = .returned (.bool true) ∧ Below w.heap.size w w' := by
  have hx := bounds_u64 w0
  have h0 := bounds_u8 w1_0
  have h1 := bounds_u8 w1_1
  clear w0 w1_0 w1_1
  have HA := Lib.hid (and_all a0 hx)
  have e0 := and31 a1_0 h0
  have e1 := and31 a1_1 h1
  have hA : 0 ≤ a1_0 % 32 ∧ a1_0 % 32 ≤ 31 := by omega
  have hB : 0 ≤ a1_1 % 32 ∧ a1_1 % 32 ≤ 31 := by omega
  clear h0 h1
  generalize a1_0 % 32 = A at *
  generalize a1_1 % 32 = B at *
  go_enter Try.func7, Try.ntmps7
  go_wp2_with fail
  refine (shown01_c _).mono ?_
  rintro e w' ⟨rfl, rfl⟩
  go_wp2_with fail
  clear e0 e1
  go_loop [8] (fun i => ∃ k : Nat, k ≤ 3 ∧ i = .int .i64 k) (fun i => 3 - (intOf i).toNat)
  case atStart => exact ⟨0, by omega, rfl⟩
  case round =>
    obtain ⟨k, hk, rfl⟩ := hrel
    by_cases hk3 : k < 3
    · go_wp2_with fail
      refine (Shift_c _ _ _ hx (by omega) (by omega) _).mono ?_
      rintro e w' ⟨rfl, rfl⟩
      go_wp2_with fail
      refine (Shift_c _ _ _ (shiftV_bd _ _ _ hx) (by omega) (by omega) _).mono ?_
      rintro e w' ⟨rfl, rfl⟩
      rw [shiftV_add a0 A B k hx hA.1 hB.1 (by omega)]
      go_wp2_with fail
      refine (Shift_c _ _ _ hx (by omega) (by omega) _).mono ?_
      rintro e w' ⟨rfl, rfl⟩
      go_wp2_with fail
      go_round
      case rel => exact ⟨k + 1, by omega, by go_num⟩
      case measure => simp [intOf]; omega
    · have hA' := HA.out
      clear HA
      have hp := pow_bd A (by omega)
      have hw := wrap_pow A (by omega)
      go_wp2_with fail
      have D1 := Lib.hid (shiftV_div a0 A (by omega))
      have D2 := Lib.hid (shiftV_mul a0 A (by omega))
      have D3 := Lib.hid (divU_back a0 (2 ^ A.toNat) hx (by omega))
      have D4 := Lib.hid (shiftV_none a0 A)
      have D5 := Lib.hid (shiftV_round a0 A 1)
      have hq := divV_bd a0 (2 ^ A.toNat) false hx (by omega)
      clear hw
      generalize (2 : Int) ^ A.toNat = P at *
      refine (Shift_c _ _ _ hx (by omega) (by omega) _).mono ?_
      rintro e w' ⟨rfl, rfl⟩
      rw [D1.out]
      go_wp2_with fail
      refine (Div_c _ _ _ hx (by omega) _).mono ?_
      rintro e w' ⟨rfl, rfl⟩
      go_wp2_with fail
      refine (Shift_c _ _ _ hx (by omega) (by omega) _).mono ?_
      rintro e w' ⟨rfl, rfl⟩
      rw [D2.out]
      go_wp2_with fail
      refine (Shift_c _ _ _ hx (by omega) (by omega) _).mono ?_
      rintro e w' ⟨rfl, rfl⟩
      rw [D1.out]
      go_wp2_with fail
      refine (Rem_c _ _ _ hx (by omega) _).mono ?_
      rintro e w' ⟨rfl, rfl⟩
      have d3 := D3.out
      go_wp2_with fail
      clear d3
      refine (Shift_c _ _ _ hx (by omega) (by omega) _).mono ?_
      rintro e w' ⟨rfl, rfl⟩
      rw [D4.out]
      go_wp2_with fail
      refine (Shift_c _ _ _ hx (by omega) (by omega) _).mono ?_
      rintro e w' ⟨rfl, rfl⟩
      rw [D5.out]
      go_wp2_with fail
      refine (Shift_c _ _ _ hx (by omega) (by omega) _).mono ?_
      rintro e w' ⟨rfl, rfl⟩
      go_wp2_with fail
      go_ret
      exact ⟨rfl, below_alloc1 _ _⟩

theorem own : ownKnob Try.prog.godebug = none := by kernel_rfl
theorem laidOut : laidOutB Try.prog = true := by kernel_rfl

set_option maxRecDepth 100000 in
theorem lifted (os : Os) (started : os.Started) (H : Type) (enc : TypeId × Value → H) :
    ReturnsInHanded {} Try.checked os 7 .any (Rows.wordShiftsSpec.pre6 enc Try.prog Try.f7 Rows.wordShiftsRow.domain false) (Rows.wordShiftsSpec.post enc Try.prog Try.f7 false true false false) := by
  refine returnsInHanded_of_change (C := Try.checked) own started (by kernel_rfl) Try.func7
    (ChangeSpec.witness6 (enc := enc) (C := Try.checked) false ⟨#[], #[.int .u64 0, .agg #[.int .u8 0, .int .u8 0]], []⟩ 8 (by kernel_rfl) (by kernel_rfl) (by kernel_rfl) (by kernel_rfl)) ?_
  intro W base args ds gs before hval0 hW hcnd _
  have hval : ∀ (j : Nat) t v, Try.f7.params[j]? = some t → args[j]? = some v → Value.okWide Try.prog W .any base t v := hval0
  have hW' := hW
  obtain ⟨p, q, hA0, hV, rfl, hfz, hnd⟩ := hW
  have hA : DataW.TrodAll enc Try.prog W 0 (fun _ => true) true Try.f7.params.toList args.toList ds p := hA0
  rw [Try.params7] at hA hval
  obtain ⟨v0, vs0, d0, ds0, p0, q0, hargs, rfl, rfl, h0, r0⟩ := trodAll_cons hA
  obtain ⟨v1, vs1, d1, ds1, p1, q1, rfl, rfl, rfl, h1, r1⟩ := trodAll_cons r0
  obtain ⟨rfl, rfl, rfl⟩ := trodAll_nil r1
  obtain rfl : args = #[v0, v1] := by cases args; simp_all
  obtain ⟨rfl, rfl⟩ := trodVars_none hV
  clear hA0 hval0 hA
  have k0 := h0
  have lt0 : ∀ x ∈ p0, x.block < W.heap.size := by obtain ⟨m, hm⟩ := k0; exact DataW.trod_lt m _ _ _ hm
  obtain ⟨a0, rfl, rfl, rfl, w0⟩ := open_int Try.underlying22 (hval 0 22 v0 rfl rfl) h0
  have k1 := h1
  have lt1 : ∀ x ∈ p1, x.block < W.heap.size := by obtain ⟨m, hm⟩ := k1; exact DataW.trod_lt m _ _ _ hm
  obtain ⟨xs1, rfl, l1, w1⟩ := Op.open_arr_int Try.underlying36 Try.underlying5 (by kernel_rfl) (by kernel_rfl) (hval 1 36 v1 rfl rfl) h1
  obtain _ | ⟨a1_0, xs1⟩ := xs1
  · simp at l1
  obtain _ | ⟨a1_1, xs1⟩ := xs1
  · simp at l1
  obtain _ | ⟨_, _⟩ := xs1
  rotate_left
  · simp at l1
  clear h1
  simp only [List.map_cons, List.map_nil] at *
  have w1_0 := w1 a1_0 (by simp)
  have w1_1 := w1 a1_1 (by simp)
  refine (walk a0 w0 a1_0 w1_0 a1_1 w1_1 W).mono fun e W' ⟨he, bel⟩ => ?_
  subst he
  exact ⟨_, rfl, _, _, _, [], _, [], hW', trodAll_mk1 (shut_bool Try.underlying4 _), (trodAll_cons_mk (Below.trod laidOut (by kernel_rfl) (of_decide_eq_true (by kernel_rfl)) k0 bel lt0) (trodAll_cons_mk (Below.trod laidOut (by kernel_rfl) (of_decide_eq_true (by kernel_rfl)) k1 bel lt1) trodAll_mk0)), rfl, bel.frame _, fun h => by cases h⟩

theorem over : Rows.wordShiftsRow.holds Try.pinned (OpenSpec.ofChange Rows.wordShiftsSpec) :=
  OpenClaim.holds_of_wide 7 Try.f7 rfl rfl rfl rfl rfl rfl rfl ⟨rfl, rfl, rfl, rfl, rfl⟩ rfl rfl rfl rfl rfl (by kernel_rfl) Try.func7 (by kernel_rfl)
    (of_decide_eq_true (by kernel_rfl)) (by unfold Func.isWrapper; first | (rw [if_pos (by decide +kernel)]; kernel_rfl) | (rw [if_neg (by decide +kernel)]; exact ⟨rfl, rfl⟩))
    (fun os started H enc _ => lifted os started H enc)

/-- The statement. -/
theorem proved : Rows.WordShiftsSaid := over
#print axioms proved

end Go.Proofs.Ytbcfncffgjaapaa.wordShifts
