/-
  Plain mathematics of layer 11, on: the lowest bits struck off; where an entry leads within its page.
  Conditions: none beyond the lemmas' own.
-/
import Derived.Test.YtkfmcbhoendocaaLayK
namespace Go.Proofs.Ytkfmcbhoendocaa.K
open Go Go.RowKit W D A P M
set_option linter.unusedVariables false

theorem not_low (x : Int) (hx : B64 x) : bits .andNot .u64 x 4095 = x - x % 4096 := by
  obtain ⟨n, rfl, hn⟩ := hx.nat
  show IntKind.u64.wrap (((BitVec.ofInt 64 (n : Int) &&& ~~~ BitVec.ofInt 64 (4095 : Int)).toNat : Nat) : Int) = _
  rw [BitVec.toNat_and, BitVec.toNat_ofInt, IntKind.wrap_u64]
  have ex : ((n : Int) % ((2 ^ 64 : Nat) : Int)).toNat = n := by rw [show (2 : Nat) ^ 64 = 18446744073709551616 from rfl]; omega
  have em : (~~~ BitVec.ofInt 64 (4095 : Int)).toNat = 18446744073709547520 := by decide +kernel
  rw [ex, em]
  have e : n &&& 18446744073709547520 = n / 2 ^ 12 * 2 ^ 12 := Nat.eq_of_testBit_eq fun i => by
    rw [Nat.testBit_and, show (18446744073709547520 : Nat) = 2 ^ 64 - (4095 + 1) from rfl, Nat.testBit_two_pow_sub_succ (by omega), Nat.testBit_mul_two_pow, Nat.testBit_div_two_pow, show (4095 : Nat) = 2 ^ 12 - 1 from rfl, Nat.testBit_two_pow_sub_one]
    by_cases hi : i < 64
    · by_cases h12 : i < 12
      · simp [h12]; intro h; omega
      · simp only [hi, h12, decide_true, decide_false, Bool.not_false, Bool.and_true, show 12 ≤ i by omega, Bool.true_and]
        congr 1; omega
    · have h12 : i - 12 + 12 = i := by omega
      simp [high_off hn hi, h12]
  rw [e, show (2 : Nat) ^ 12 = 4096 from rfl]
  omega
/-- An aligned entry's address: its page's, and what is within. -/
theorem at_aligned {e va n : Int} (hn : 0 ≤ n ∧ n ≤ 2) (ha : alignedV e n = true) : atV e va n = pageV e * 4096 + va % szV n := by
  unfold alignedV at ha
  simp only [Bool.and_eq_true, decide_eq_true_eq] at ha
  unfold atV
  rw [if_pos ha.1, ha.2]
  omega
theorem pf_na (k : Int) : pfC k ≠ naC k := by
  unfold pfC naC causeV
  by_cases h0 : k = 0
  · simp [h0]
  · by_cases h2 : k = 2 <;> simp [h0, h2]
end Go.Proofs.Ytkfmcbhoendocaa.K
