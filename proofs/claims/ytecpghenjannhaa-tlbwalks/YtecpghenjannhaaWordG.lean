/-
  Plain mathematics of layer 1's statements, on: the bits of a number whose sign was extended.
  Conditions: the numbers are of 64 bits.
-/
import Derived.Test.YtecpghenjannhaaWordS
namespace Go.Proofs.Ytecpghenjannhaa.W
open Go Go.RowKit
set_option linter.unusedVariables false

theorem and_one (z : Int) (h : 0 ≤ z ∧ z ≤ 18446744073709551615) : bits .and .u64 z 1 = z % 2 := by
  rw [u64_and _ _ h.1 (by omega) (by omega) (by omega), show (1 : Int).toNat = 1 from rfl, nat_mask1]; omega
theorem pow_split (i n : Nat) (h : i ≤ n) : (2 : Int) ^ n = 2 ^ (n - i) * 2 ^ i := by
  rw [← Int.pow_add]; congr 1; omega
/-- A bit of a number is that of what is left of it modulo a greater power of two. -/
theorem bit_mod (z : Int) (i n : Nat) (h : i < n) : z / 2 ^ i % 2 = z % 2 ^ n / 2 ^ i % 2 := by
  have hp := pow_pos' i
  have e : (2 : Int) ^ n = 2 ^ (n - (i + 1)) * (2 * 2 ^ i) := by
    rw [pow_split (i + 1) n (by omega), Int.pow_succ (2 : Int) i, Int.mul_comm ((2 : Int) ^ i) 2]
  have hz := Int.mul_ediv_add_emod z (2 ^ n)
  have e2 : z = z % 2 ^ n + (2 * (2 ^ (n - (i + 1)) * (z / 2 ^ n))) * 2 ^ i := by
    have : 2 ^ n * (z / 2 ^ n) = (2 * (2 ^ (n - (i + 1)) * (z / 2 ^ n))) * 2 ^ i := by
      rw [e]
      generalize z / (2 ^ (n - (i + 1)) * (2 * 2 ^ i)) = u
      generalize (2 : Int) ^ (n - (i + 1)) = a
      generalize (2 : Int) ^ i = b
      rw [Int.mul_assoc a (2 * b) u, Int.mul_assoc 2 b u, Int.mul_left_comm a 2, Int.mul_assoc 2 (a * u) b, Int.mul_assoc a u b, Int.mul_comm b u]
    omega
  generalize z % 2 ^ n = y at *
  generalize 2 ^ (n - (i + 1)) * (z / 2 ^ n) = u at *
  rw [e2, Int.add_mul_ediv_right _ _ (by omega)]
  omega

/-- sextV at every number of bits that the statement asks for (1 to 64). -/
theorem sextV_64 (x : Int) : sextV x 64 = x := by unfold sextV; rw [if_pos (by omega)]
theorem sextV_low (x : Int) (n : Nat) (h1 : 1 ≤ n) (h2 : n ≤ 63) (hx : 0 ≤ x ∧ x ≤ 18446744073709551615) : sextV x n % 2 ^ n = x % 2 ^ n := by
  rw [sextV_eq x n h1 h2]
  have hp := pow_pos' n
  have e : (18446744073709551616 : Int) = 2 ^ (64 - n) * 2 ^ n := by rw [← pow_split n 64 (by omega)]; rfl
  split
  · exact Int.emod_emod_of_dvd _ (Int.dvd_refl _)
  · rw [e, Int.add_mul_emod_self_right, Int.sub_emod_right]
    exact Int.emod_emod_of_dvd _ (Int.dvd_refl _)
theorem sextV_twice (x : Int) (n : Nat) (h1 : 1 ≤ n) (h2 : n ≤ 64) (hx : 0 ≤ x ∧ x ≤ 18446744073709551615) : sextV (sextV x n) n = sextV x n := by
  by_cases h : n = 64
  · subst h; exact sextV_64 _
  · have e := sextV_low x n h1 (by omega) hx
    rw [sextV_eq (sextV x n) n h1 (by omega), e, ← sextV_eq x n h1 (by omega)]
theorem sextV_bit_low (x : Int) (n i : Nat) (h1 : 1 ≤ n) (h2 : n ≤ 64) (hi : i < n) (hx : 0 ≤ x ∧ x ≤ 18446744073709551615) : sextV x n / 2 ^ i % 2 = x / 2 ^ i % 2 := by
  by_cases h : n = 64
  · subst h; rw [show ((64 : Nat) : Int) = 64 from rfl, sextV_64]
  · rw [bit_mod (sextV x n) i n hi, sextV_low x n h1 (by omega) hx, ← bit_mod x i n hi]
/-- From the sign's bit on all bits are the sign. -/
theorem sextV_bit_top (x : Int) (n i : Nat) (h1 : 1 ≤ n) (h2 : n ≤ 63) (hi : n - 1 ≤ i) (hi2 : i ≤ 63) :
    sextV x n / 2 ^ i % 2 = if x % 2 ^ n < 2 ^ (n - 1) then 0 else 1 := by
  rw [sextV_eq x n h1 h2]
  have hp := pow_pos' i
  have hq := pow_le (n - 1) i hi
  have hy := Int.emod_nonneg x (b := 2 ^ n) (by have := pow_pos' n; omega)
  have hy1 := Int.emod_lt_of_pos x (pow_pos' n)
  have hn : (2 : Int) ^ n = 2 * 2 ^ (n - 1) := by rw [pow_split 1 n h1, Int.mul_comm]; rfl
  split
  · rename_i h
    rw [Int.ediv_eq_zero_of_lt hy (by omega)]; rfl
  · rename_i h
    have e : (18446744073709551616 : Int) = 2 * 2 ^ (63 - i) * 2 ^ i := by
      rw [Int.mul_assoc, ← pow_split i 63 hi2]; rfl
    have e2 : x % 2 ^ n - 2 ^ n + 18446744073709551616 = (x % 2 ^ n - 2 ^ n + 2 ^ i) + (2 * 2 ^ (63 - i) - 1) * 2 ^ i := by
      rw [Int.sub_mul, ← e]; omega
    rw [e2, Int.add_mul_ediv_right _ _ (by omega), Int.ediv_eq_zero_of_lt (by omega) (by omega)]
    omega
theorem sextV_bit_high (x : Int) (n i : Nat) (h1 : 1 ≤ n) (h2 : n ≤ 64) (hi : n ≤ i) (hi2 : i ≤ 63) :
    sextV x n / 2 ^ i % 2 = sextV x n / 2 ^ (n - 1) % 2 := by
  have h3 : n ≤ 63 := by omega
  rw [sextV_bit_top x n i h1 h3 (by omega) hi2, sextV_bit_top x n (n - 1) h1 h3 (by omega) (by omega)]
theorem shiftV_sext (x : Int) (n : Nat) (h1 : 1 ≤ n) (h2 : n ≤ 64) (hx : 0 ≤ x ∧ x ≤ 18446744073709551615) : shiftV (shiftV x (64 - n) 0) (64 - n) 2 = sextV x n := by
  by_cases h : n = 64
  · subst h
    rw [show ((64 : Nat) : Int) = 64 from rfl, sextV_64]
    unfold shiftV
    simp only [if_true, if_neg (show ¬ (2 : Int) = 0 from by decide), if_neg (show ¬ (2 : Int) = 1 from by decide)]
    rw [show ((64 - 64 : Int) % 64).toNat = 0 from rfl, Int.pow_zero, Int.mul_one, Int.ediv_one, u64_eq, u64_eq, w64_def]
    omega
  · unfold shiftV sextV
    simp only [if_true, if_neg (show ¬ (2 : Int) = 0 from by decide), if_neg (show ¬ (2 : Int) = 1 from by decide)]
    rw [if_neg (by omega), show (64 - (n : Int)) % 64 = 64 - n from by omega]
end Go.Proofs.Ytecpghenjannhaa.W
