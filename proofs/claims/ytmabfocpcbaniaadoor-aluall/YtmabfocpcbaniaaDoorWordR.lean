/-
  What the document's own answers for layer 1 (package suzerainref01) are, for all numbers: contracts over the translation, each by the program's plain functions.
  Conditions: the arguments are numbers of their kinds.
-/
import Derived.Test.YtmabfocpcbaniaaDoorWordC
import Derived.Test.YtmabfocpcbaniaaDoorWordRV
namespace Go.Proofs.YtmabfocpcbaniaaDoor
open Go Go.RowKit W
set_option linter.unusedVariables false
set_option linter.unusedSimpArgs false

theorem ret_bool {a b : Bool} (h : a = b) : Ending.returned (.bool a) = .returned (.bool b) := by rw [h]

set_option maxHeartbeats 400000 in
theorem rBelow_c (x : Int) (hx : 0 ≤ x ∧ x ≤ 18446744073709551615) (w : World) :
    Calls Tryd.prog 59 #[.int .u64 x] w fun e w' => e = .returned (.bool (decide (9223372036854775808 ≤ x))) ∧ w = w' := by
  go_enter Tryd.func59, Tryd.ntmps59
  go_wp2_with fail
  go_ret
  exact ⟨rfl, rfl⟩

set_option maxHeartbeats 400000 in
theorem rSize_c (x : Int) (hx : 0 ≤ x ∧ x ≤ 18446744073709551615) (w : World) :
    Calls Tryd.prog 61 #[.int .u64 x] w fun e w' => e = .returned (.int .u64 (if 9223372036854775808 ≤ x then 18446744073709551616 - x else x)) ∧ w = w' := by
  by_cases h : 9223372036854775808 ≤ x
  all_goals
    go_enter Tryd.func61, Tryd.ntmps61
    go_wp2_with fail
    refine (rBelow_c _ hx _).mono ?_
    rintro e w' ⟨rfl, rfl⟩
    go_wp2_with fail
    go_ret
    refine ⟨ret_int ?_, rfl⟩
    first
    | rfl
    | (simp only [u64_eq]; omega)
    | (rw [if_pos h]; simp only [u64_eq]; omega)
    | rw [if_neg h]

set_option maxHeartbeats 400000 in
theorem rSext_c (x n : Int) (hx : 0 ≤ x ∧ x ≤ 18446744073709551615) (hn : -9223372036854775808 ≤ n ∧ n ≤ 9223372036854775807) (w : World) :
    Calls Tryd.prog 31 #[.int .u64 x, .int .i64 n] w fun e w' => e = .returned (.int .u64 (sextV x n)) ∧ w = w' := by
  by_cases h : n < 1 ∨ 63 < n
  · by_cases h1 : n < 1
    all_goals
      go_enter Tryd.func31, Tryd.ntmps31
      go_wp2
      go_ret
      exact ⟨ret_int (by simp only [sextV]; rw [if_pos (by omega)]), rfl⟩
  · obtain ⟨m, rfl⟩ : ∃ m : Nat, n = m := ⟨n.toNat, by omega⟩
    have h1 : 1 ≤ m := by omega
    have h2 : m ≤ 63 := by omega
    have E := Lib.hid (sextV_eq x m h1 h2)
    have p0 := wrap_pow m (by omega)
    have p1 := wrap_pow ((m : Int) - 1) (by omega)
    have b0 := pow_bd m (by omega)
    have b1 := pow_bd ((m : Int) - 1) (by omega)
    rw [Int.toNat_natCast] at p0 b0
    rw [show ((m : Int) - 1).toNat = m - 1 from by omega] at p1 b1
    have hm := Int.emod_nonneg x (b := 2 ^ m) (by omega)
    have hm2 := Int.emod_lt_of_pos x (b := 2 ^ m) (by omega)
    clear h
    generalize sextV x m = y at *
    by_cases hl : x % 2 ^ m < 2 ^ (m - 1)
    all_goals
      go_enter Tryd.func31, Tryd.ntmps31
      go_wp2_with fail
      go_ret
      refine ⟨ret_int ?_, rfl⟩
      rw [E.out]
    · rw [if_pos hl]
    · rw [if_neg (by omega), u64_eq]
      omega

set_option maxHeartbeats 1000000 in
theorem rHigh_c (a b : Int) (sa sb : Bool) (ha : 0 ≤ a ∧ a ≤ 18446744073709551615) (hb : 0 ≤ b ∧ b ≤ 18446744073709551615) (w : World) :
    Calls Tryd.prog 32 #[.int .u64 a, .int .u64 b, .bool sa, .bool sb] w fun e w' => e = .returned (.int .u64 (highV a b sa sb)) ∧ w = w' := by
  have Z := Lib.hid (div_pow64 b hb)
  go_enter Tryd.func32, Tryd.ntmps32
  go_wp2_with fail
  go_loop [9, 10, 11] (fun lo hi i => ∃ k : Nat, k ≤ 64 ∧ lo = .int .u64 (a * (b / 2 ^ k) % 18446744073709551616) ∧ hi = .int .u64 (a * (b / 2 ^ k) / 18446744073709551616) ∧ i = .int .i64 ((k : Int) - 1))
    (fun _ _ i => (intOf i + 1).toNat)
  case atStart => exact ⟨64, by omega, by rw [Z.out, Int.mul_zero]; rfl, by rw [Z.out, Int.mul_zero]; rfl, rfl⟩
  case round =>
    obtain ⟨k, hk, rfl, rfl, hi⟩ := hrel
    cases k with
    | succ j =>
      rw [show (((j + 1 : Nat) : Int) - 1) = j from by omega] at hi
      subst hi
      have c1 := mul_cap a b (j + 1) ha hb
      have c0 := mul_cap a b j ha hb
      have B := Lib.hid (mul_bit a b j hb.1)
      have b2 : 0 ≤ a * (b / 2 ^ j % 2) := Int.mul_nonneg ha.1 (by omega)
      have cv : 2 * (a * (b / 2 ^ (j + 1))) ≤ 340282366920938463426481119284349108225 := by have := B.out; omega
      have R0 := Lib.hid (high_round0 (a * (b / 2 ^ (j + 1))) c1.1 (by omega))
      clear b2
      generalize a * (b / 2 ^ (j + 1)) = V at *
      have r1 := R0.out.2
      have hsb := shr_bd b j hb
      have ht : b / 2 ^ j % 2 = 1 ∨ b / 2 ^ j % 2 = 0 := by omega
      rcases ht with ht | ht
      · have R1 := Lib.hid (high_round1 (2 * V) a (by omega) ha (by have := B.out; rw [ht, Int.mul_one] at this; omega))
        have E : Hid (2 * V + a = a * (b / 2 ^ j)) := Lib.hid (by rw [B.out, ht, Int.mul_one])
        have r2 := R1.out.1
        by_cases hl : (2 * V + a) % 18446744073709551616 < 2 * V % 18446744073709551616
        · go_wp2_with fail
          go_round
          case rel => exact ⟨j, by omega, by rw [E.out], (by have e := E.out; refine congrArg (Value.int .u64) ?_; rw [← e]; (try simp only [u64_eq]); clear r1; omega), rfl⟩
          case measure => simp [intOf] <;> omega
        · go_wp2_with fail
          go_round
          case rel => exact ⟨j, by omega, by rw [E.out], (by have e := E.out; refine congrArg (Value.int .u64) ?_; rw [← e]; (try simp only [u64_eq]); clear r1; omega), rfl⟩
          case measure => simp [intOf] <;> omega
      · have E : Hid (2 * V = a * (b / 2 ^ j)) := Lib.hid (by rw [B.out, ht, Int.mul_zero, Int.add_zero])
        go_wp2_with fail
        go_round
        case rel => exact ⟨j, by omega, by rw [E.out], (by have e := E.out; refine congrArg (Value.int .u64) ?_; rw [← e]; (try simp only [u64_eq]); clear r1; omega), rfl⟩
        case measure => simp [intOf] <;> omega
    | zero =>
      rw [show (((0 : Nat) : Int) - 1) = -1 from rfl] at hi
      subst hi
      rw [Int.pow_zero, Int.ediv_one]
      have hh := hi_bd a b ha hb
      generalize a * b % 18446744073709551616 = L at *
      have HV : Hid (∀ sa sb, highV a b sa sb = IntKind.u64.wrap (a * b / 18446744073709551616 - (if sa = true ∧ 9223372036854775808 ≤ a then b else 0) - (if sb = true ∧ 9223372036854775808 ≤ b then a else 0))) := Lib.hid (fun _ _ => rfl)
      generalize a * b / 18446744073709551616 = h at *
      cases sa <;> cases sb
      · go_wp2_with fail
        go_ret
        refine ⟨ret_int ?_, rfl⟩
        rw [HV.out]
        simp only [u64_eq, true_and, false_and, Bool.false_eq_true, if_false]
        (repeat' split) <;> omega
      · by_cases nb : 9223372036854775808 ≤ b
        all_goals
          go_wp2_with fail
          refine (rBelow_c _ hb _).mono ?_
          rintro e w' ⟨rfl, rfl⟩
          go_wp2_with fail
          go_ret
          refine ⟨ret_int ?_, rfl⟩
          rw [HV.out]
          simp only [u64_eq, true_and, false_and, Bool.false_eq_true, if_false]
          (repeat' split) <;> omega
      · by_cases na : 9223372036854775808 ≤ a
        all_goals
          go_wp2_with fail
          refine (rBelow_c _ ha _).mono ?_
          rintro e w' ⟨rfl, rfl⟩
          go_wp2_with fail
          go_ret
          refine ⟨ret_int ?_, rfl⟩
          rw [HV.out]
          simp only [u64_eq, true_and, false_and, Bool.false_eq_true, if_false]
          (repeat' split) <;> omega
      · by_cases na : 9223372036854775808 ≤ a <;> by_cases nb : 9223372036854775808 ≤ b
        all_goals
          go_wp2_with fail
          refine (rBelow_c _ ha _).mono ?_
          rintro e w' ⟨rfl, rfl⟩
          go_wp2_with fail
          refine (rBelow_c _ hb _).mono ?_
          rintro e w' ⟨rfl, rfl⟩
          go_wp2_with fail
          go_ret
          refine ⟨ret_int ?_, rfl⟩
          rw [HV.out]
          simp only [u64_eq, true_and, false_and, Bool.false_eq_true, if_false]
          (repeat' split) <;> omega
end Go.Proofs.YtmabfocpcbaniaaDoor
