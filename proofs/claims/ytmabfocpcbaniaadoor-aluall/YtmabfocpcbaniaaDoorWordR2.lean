/-
  What the document's own answers for layer 1 are, on: division by taking away, shifts one by one.
  Conditions: the arguments are numbers of their kinds.
-/
import Derived.Test.YtmabfocpcbaniaaDoorWordR
namespace Go.Proofs.YtmabfocpcbaniaaDoor
open Go Go.RowKit W
set_option linter.unusedVariables false
set_option linter.unusedSimpArgs false

theorem q_bd (a b : Int) (i : Nat) (ha : 0 ≤ a ∧ a ≤ 18446744073709551615) (hb : 0 < b) : 0 ≤ a / 2 ^ i / b * 2 ^ i ∧ a / 2 ^ i / b * 2 ^ i ≤ 18446744073709551615 := by
  have h1 := shr_bd a i ha
  have hp := pow_pos' i
  have h2 : 0 ≤ a / 2 ^ i / b := Int.ediv_nonneg h1.1 (by omega)
  have h3 : a / 2 ^ i / b ≤ a / 2 ^ i := Int.ediv_le_self b h1.1
  have h4 : a / 2 ^ i / b * 2 ^ i ≤ a / 2 ^ i * 2 ^ i := Int.mul_le_mul_of_nonneg_right h3 (by omega)
  have h5 := Int.mul_ediv_add_emod a (2 ^ i)
  have h6 := Int.emod_nonneg a (b := 2 ^ i) (by omega)
  rw [Int.mul_comm] at h5
  exact ⟨Int.mul_nonneg h2 (by omega), by omega⟩

set_option maxHeartbeats 1000000 in
theorem plain_c (a b : Int) (ha : 0 ≤ a ∧ a ≤ 18446744073709551615) (hb : 0 < b ∧ b ≤ 18446744073709551615) (w : World) :
    Calls Tryd.prog 60 #[.int .u64 a, .int .u64 b] w fun e w' => e = .returned (.tuple #[.int .u64 (a / b), .int .u64 (a % b)]) ∧ w = w' := by
  have Z := Lib.hid (div_pow64 a ha)
  go_enter Tryd.func60, Tryd.ntmps60
  go_wp2_with fail
  go_loop [6, 7, 8] (fun q r i => ∃ k : Nat, k ≤ 64 ∧ q = .int .u64 (a / 2 ^ k / b * 2 ^ k) ∧ r = .int .u64 (a / 2 ^ k % b) ∧ i = .int .i64 ((k : Int) - 1))
    (fun _ _ i => (intOf i + 1).toNat)
  case atStart => exact ⟨64, by omega, by rw [Z.out, Int.zero_ediv, Int.zero_mul], by rw [Z.out, Int.zero_emod], rfl⟩
  case round =>
    obtain ⟨k, hk, rfl, rfl, hi⟩ := hrel
    cases k with
    | succ j =>
      rw [show (((j + 1 : Nat) : Int) - 1) = j from by omega] at hi
      subst hi
      have hsb := shr_bd a j ha
      have q0 := q_bd a b j ha hb.1
      have r0 := Int.emod_nonneg (a / 2 ^ (j + 1)) (b := b) (by omega)
      have r1 := Int.emod_lt_of_pos (a / 2 ^ (j + 1)) hb.1
      have hp := wrap_pow j (by omega)
      rw [Int.toNat_natCast] at hp
      have HS : Hid ((2 : Int) ^ (j + 1) = 2 * 2 ^ j) := Lib.hid (by rw [Int.pow_succ]; omega)
      have t0 : 0 ≤ a / 2 ^ j % 2 ∧ a / 2 ^ j % 2 ≤ 1 := by omega
      obtain ⟨t, ht⟩ : ∃ t, a / 2 ^ j % 2 = t := ⟨_, rfl⟩
      obtain ⟨r, hr⟩ : ∃ r, a / 2 ^ (j + 1) % b = r := ⟨_, rfl⟩
      obtain ⟨Q, hQ⟩ : ∃ Q, a / 2 ^ (j + 1) / b = Q := ⟨_, rfl⟩
      have P := Lib.hid (plain_round a b j ha hb r Q t hr hQ ht)
      rw [hr, hQ]
      rw [hr] at r0 r1
      rw [ht] at t0
      clear hr hQ
      by_cases hc : b ≤ 2 * r + t
      · have P1 := Lib.hid (P.out.1 hc)
        have E3 : Hid (IntKind.u64.wrap (Q * 2 ^ (j + 1) + 2 ^ j) = a / 2 ^ j / b * 2 ^ j) := Lib.hid (by
          rw [P1.out.2, HS.out, u64_eq]
          rw [P1.out.2] at q0
          have : (2 * Q + 1) * 2 ^ j = Q * (2 * 2 ^ j) + 2 ^ j := by
            rw [Int.add_mul, Int.one_mul, Int.mul_comm 2 Q, Int.mul_assoc]
          omega)
        clear P q0
        by_cases hc1 : 9223372036854775808 ≤ r
        · go_wp2_with (go_at_call 59; refine (rBelow_c _ (by omega) _).mono ?_; rintro e w' ⟨rfl, rfl⟩)
          go_round
          case rel => exact ⟨j, by omega, by rw [← E3.out], (by refine congrArg (Value.int .u64) ?_; rw [P1.out.1]; (try simp only [u64_eq]); omega), rfl⟩
          case measure => simp [intOf] <;> omega
        · go_wp2_with (go_at_call 59; refine (rBelow_c _ (by omega) _).mono ?_; rintro e w' ⟨rfl, rfl⟩)
          go_round
          case rel => exact ⟨j, by omega, by rw [← E3.out], (by refine congrArg (Value.int .u64) ?_; rw [P1.out.1]; (try simp only [u64_eq]); omega), rfl⟩
          case measure => simp [intOf] <;> omega
      · have P1 := Lib.hid (P.out.2 (by omega))
        have E3 : Hid (Q * 2 ^ (j + 1) = a / 2 ^ j / b * 2 ^ j) := Lib.hid (by
          rw [P1.out.2, HS.out, Int.mul_comm 2 Q, Int.mul_assoc])
        clear P q0
        have hc1 : ¬ 9223372036854775808 ≤ r := by omega
        go_wp2_with (go_at_call 59; refine (rBelow_c _ (by omega) _).mono ?_; rintro e w' ⟨rfl, rfl⟩)
        go_round
        case rel => exact ⟨j, by omega, by rw [← E3.out], (by refine congrArg (Value.int .u64) ?_; rw [P1.out.1]; (try simp only [u64_eq]); omega), rfl⟩
        case measure => simp [intOf] <;> omega
    | zero =>
      rw [show (((0 : Nat) : Int) - 1) = -1 from rfl] at hi
      subst hi
      rw [Int.pow_zero, Int.ediv_one, Int.mul_one]
      go_wp2_with fail
      go_ret2
      exact ⟨rfl, rfl⟩
end Go.Proofs.YtmabfocpcbaniaaDoor
