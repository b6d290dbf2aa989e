/-
  Plain mathematics of layer 1's statements, on: shifts.
  Conditions: the numbers are of 64 bits.
-/
import Derived.Test.YtecpghenjannhaaWordN
namespace Go.Proofs.Ytecpghenjannhaa.W
open Go Go.RowKit
set_option linter.unusedVariables false

theorem and31 (v : Int) (h : 0 ≤ v ∧ v ≤ 255) : bits .and .u8 v 31 = v % 32 := by
  rw [u8_and _ _ h.1 (by omega) (by omega) (by omega), show (31 : Int).toNat = 31 from rfl, nat_mask5]; omega
theorem and63b (v : Int) (h : 0 ≤ v ∧ v ≤ 255) : bits .and .u8 v 63 = v % 64 := by
  rw [u8_and _ _ h.1 (by omega) (by omega) (by omega), show (63 : Int).toNat = 63 from rfl, nat_mask6]; omega
theorem pow_le (n m : Nat) (h : n ≤ m) : (2 : Int) ^ n ≤ 2 ^ m := by
  rw [show m = n + (m - n) from by omega, Int.pow_add]
  have := Int.mul_le_mul_of_nonneg_left (a := 1) (b := 2 ^ (m - n)) (c := (2 : Int) ^ n) (by have := pow_pos' (m - n); omega) (by have := pow_pos' n; omega)
  omega
theorem pow_bd (A : Int) (h : 0 ≤ A ∧ A ≤ 63) : 1 ≤ (2 : Int) ^ A.toNat ∧ (2 : Int) ^ A.toNat ≤ 9223372036854775808 := by
  have h1 := pow_pos' A.toNat
  have h2 := pow_le A.toNat 63 (by omega)
  exact ⟨by omega, h2⟩
theorem wrap_pow (A : Int) (h : 0 ≤ A ∧ A ≤ 63) : IntKind.u64.wrap (2 ^ A.toNat) = 2 ^ A.toNat := by
  have := pow_bd A h
  rw [u64_eq]; omega
theorem wdiv_bd (x : Int) (n : Nat) : -9223372036854775808 ≤ wrap64 x / 2 ^ n ∧ wrap64 x / 2 ^ n ≤ 9223372036854775807 := by
  have hw := w64_bd x
  have hp := pow_pos' n
  constructor
  · have h1 : (-9223372036854775808 : Int) / 2 ^ n ≤ wrap64 x / 2 ^ n := Int.ediv_le_ediv hp hw.1
    have h2 : (-9223372036854775808 : Int) ≤ -9223372036854775808 / 2 ^ n := by
      rw [Int.le_ediv_iff_mul_le hp]
      omega
    omega
  · by_cases h : 0 ≤ wrap64 x
    · have := Int.ediv_le_self (2 ^ n) h; omega
    · have := Int.ediv_neg_of_neg_of_pos (a := wrap64 x) (b := 2 ^ n) (by omega) hp; omega

/-- Two shifts are one. -/
theorem shiftV_add (x a b k : Int) (hx : 0 ≤ x ∧ x ≤ 18446744073709551615) (ha : 0 ≤ a) (hb : 0 ≤ b) (hab : a + b ≤ 63) :
    shiftV (shiftV x a k) b k = shiftV x (a + b) k := by
  have e1 : a % 64 = a := by omega
  have e2 : b % 64 = b := by omega
  have e3 : (a + b) % 64 = a + b := by omega
  have e4 : (a + b).toNat = a.toNat + b.toNat := by omega
  unfold shiftV
  rw [e1, e2, e3, e4, Int.pow_add]
  by_cases k0 : k = 0
  · simp only [k0, if_true]
    rw [u64_eq, u64_eq, u64_eq, c_mul, Int.mul_assoc]
  · by_cases k1 : k = 1
    · simp only [k1, if_true, if_neg (show ¬ (1 : Int) = 0 from by decide)]
      exact Int.ediv_ediv_of_nonneg (Int.le_of_lt (pow_pos' _))
    · by_cases k2 : k = 2
      · simp only [k2, if_true, if_neg (show ¬ (2 : Int) = 0 from by decide), if_neg (show ¬ (2 : Int) = 1 from by decide)]
        have hz := wdiv_bd x a.toNat
        have e5 : wrap64 (IntKind.u64.wrap (wrap64 x / 2 ^ a.toNat)) = wrap64 x / 2 ^ a.toNat := by rw [u64_eq, w64_def]; omega
        rw [e5, Int.ediv_ediv_of_nonneg (Int.le_of_lt (pow_pos' _))]
      · simp only [if_neg k0, if_neg k1, if_neg k2]
theorem shiftV_div (x a : Int) (ha : 0 ≤ a ∧ a ≤ 63) : shiftV x a 1 = divV x (2 ^ a.toNat) false := by
  have hp := pow_bd a ha
  simp only [shiftV, divV, quoU, Bool.false_eq_true, if_false, if_true, if_neg (show ¬ (1 : Int) = 0 from by decide)]
  rw [if_neg (by omega), show a % 64 = a from by omega]
theorem shiftV_shr (x a : Int) (ha : 0 ≤ a ∧ a ≤ 63) : shiftV x a 1 = x / 2 ^ a.toNat := by
  simp only [shiftV, if_true, if_neg (show ¬ (1 : Int) = 0 from by decide)]
  rw [show a % 64 = a from by omega]
theorem shiftV_mul (x a : Int) (ha : 0 ≤ a ∧ a ≤ 63) : shiftV x a 0 = IntKind.u64.wrap (x * 2 ^ a.toNat) := by
  simp only [shiftV, if_true]
  rw [show a % 64 = a from by omega]
theorem shiftV_none (x a : Int) : shiftV x a 3 = x := by
  simp only [shiftV, if_neg (show ¬ (3 : Int) = 0 from by decide), if_neg (show ¬ (3 : Int) = 1 from by decide), if_neg (show ¬ (3 : Int) = 2 from by decide)]
theorem shiftV_round (x a k : Int) : shiftV x (a + 64) k = shiftV x a k := by
  unfold shiftV; rw [show (a + 64) % 64 = a % 64 from by omega]
end Go.Proofs.Ytecpghenjannhaa.W
