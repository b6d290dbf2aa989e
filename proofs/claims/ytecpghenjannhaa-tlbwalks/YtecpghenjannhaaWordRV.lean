/-
  Plain mathematics of the document's own answers for layer 1: products by adding, division by taking away, shifts one by one; each is the program's.
  Conditions: the numbers are of 64 bits.
-/
import Derived.Test.YtecpghenjannhaaWordG
namespace Go.Proofs.Ytecpghenjannhaa.W
open Go Go.RowKit
set_option linter.unusedVariables false

/-- One bit more of b: what a times it is. -/
theorem bit_next (b : Int) (i : Nat) (hb : 0 ≤ b) : b / 2 ^ i = 2 * (b / 2 ^ (i + 1)) + b / 2 ^ i % 2 := by
  have h : b / 2 ^ (i + 1) = b / 2 ^ i / 2 := by
    rw [Int.pow_succ, Int.ediv_ediv_of_nonneg (Int.le_of_lt (pow_pos' i))]
  rw [h]; omega
theorem div_pow64 (b : Int) (hb : 0 ≤ b ∧ b ≤ 18446744073709551615) : b / 2 ^ 64 = 0 := by
  rw [show (2 : Int) ^ 64 = 18446744073709551616 from rfl]; omega
theorem shr_bd (b : Int) (i : Nat) (hb : 0 ≤ b ∧ b ≤ 18446744073709551615) : 0 ≤ b / 2 ^ i ∧ b / 2 ^ i ≤ 18446744073709551615 := div_bd b _ hb (pow_pos' i)

/-- A round of the product by adding: V is what stands (two halves), the next is twice that, and a. -/
theorem high_round0 (V : Int) (h0 : 0 ≤ V) (h1 : 2 * V ≤ 340282366920938463463374607431768211455) :
    IntKind.u64.wrap (IntKind.u64.wrap (V / 18446744073709551616 * 2) + V % 18446744073709551616 / 9223372036854775808) = 2 * V / 18446744073709551616 ∧
    IntKind.u64.wrap (V % 18446744073709551616 * 2) = 2 * V % 18446744073709551616 := by
  rw [u64_eq, u64_eq, u64_eq]; omega
theorem high_round1 (U a : Int) (h0 : 0 ≤ U) (ha : 0 ≤ a ∧ a ≤ 18446744073709551615) (h1 : U + a ≤ 340282366920938463463374607431768211455) :
    IntKind.u64.wrap (U % 18446744073709551616 + a) = (U + a) % 18446744073709551616 ∧
    ((U + a) % 18446744073709551616 < U % 18446744073709551616 → IntKind.u64.wrap (U / 18446744073709551616 + 1) = (U + a) / 18446744073709551616) ∧
    (¬ (U + a) % 18446744073709551616 < U % 18446744073709551616 → U / 18446744073709551616 = (U + a) / 18446744073709551616) := by
  rw [u64_eq, u64_eq]; omega
theorem mul_cap (a b : Int) (i : Nat) (ha : 0 ≤ a ∧ a ≤ 18446744073709551615) (hb : 0 ≤ b ∧ b ≤ 18446744073709551615) :
    0 ≤ a * (b / 2 ^ i) ∧ a * (b / 2 ^ i) ≤ 340282366920938463426481119284349108225 := mul_le64 a _ ha (shr_bd b i hb)
theorem mul_bit (a b : Int) (i : Nat) (hb : 0 ≤ b) : a * (b / 2 ^ i) = 2 * (a * (b / 2 ^ (i + 1))) + a * (b / 2 ^ i % 2) := by
  have := bit_next b i hb
  generalize b / 2 ^ i % 2 = t at *
  rw [this, Int.mul_add, ← Int.mul_assoc, Int.mul_comm a 2, Int.mul_assoc]

/-- A round of the division by taking away. -/
theorem plain_round (a b : Int) (i : Nat) (ha : 0 ≤ a ∧ a ≤ 18446744073709551615) (hb : 0 < b ∧ b ≤ 18446744073709551615) (r Q t : Int)
    (hr : a / 2 ^ (i + 1) % b = r) (hQ : a / 2 ^ (i + 1) / b = Q) (ht : a / 2 ^ i % 2 = t) :
    (b ≤ 2 * r + t → a / 2 ^ i % b = 2 * r + t - b ∧ a / 2 ^ i / b = 2 * Q + 1) ∧
    (2 * r + t < b → a / 2 ^ i % b = 2 * r + t ∧ a / 2 ^ i / b = 2 * Q) := by
  have hn := bit_next a i ha.1
  have ht' : 0 ≤ a / 2 ^ i % 2 ∧ a / 2 ^ i % 2 ≤ 1 := by omega
  have h0 := Int.emod_nonneg (a / 2 ^ (i + 1)) (b := b) (by omega)
  have h1 := Int.emod_lt_of_pos (a / 2 ^ (i + 1)) hb.1
  have e := Int.mul_ediv_add_emod (a / 2 ^ (i + 1)) b
  rw [ht] at hn ht'
  rw [hr] at h0 h1 e
  rw [hQ] at e
  have key : a / 2 ^ i = b * (2 * Q) + (2 * r + t) := by
    rw [hn, ← Int.mul_assoc, Int.mul_comm b 2, Int.mul_assoc]; omega
  have hA : ∀ q s, a / 2 ^ i = b * q + s → 0 ≤ s → s < b → a / 2 ^ i % b = s ∧ a / 2 ^ i / b = q := by
    intro q s h hs hsb
    rw [h]
    constructor
    · rw [Int.mul_add_emod_self_left]; exact Int.emod_eq_of_lt hs hsb
    · rw [Int.mul_add_ediv_left _ _ (by omega), Int.ediv_eq_zero_of_lt hs hsb]; omega
  constructor
  · intro h
    have k2 : a / 2 ^ i = b * (2 * Q + 1) + (2 * r + t - b) := by rw [key, Int.mul_add]; omega
    exact hA _ _ k2 (by omega) (by omega)
  · intro h
    exact hA _ _ key (by omega) (by omega)
end Go.Proofs.Ytecpghenjannhaa.W
