/-
  For the law FieldTurns: a bit of a word turned, and the model's operations there.
  Conditions: none beyond the lemmas' own.
-/
import Derived.Test.YtpoplagfhenabaaFieldLaw
import Derived.Test.YtpoplagfhenabaaFieldM
import Derived.Lib.Hide
namespace Go.Proofs.Ytpoplagfhenabaa.fieldTurns
open Go Go.RowKit F W M
set_option linter.unusedVariables false

theorem xor_word (x k : Nat) (hx : x < 4294967296) (hk : k < 32) : bits .xor .u32 (x : Int) (2 ^ k % 4294967296) = ((x ^^^ 2 ^ k : Nat) : Int) ∧ x ^^^ 2 ^ k < 4294967296 := by
  have h1 : (2 : Nat) ^ k < 2 ^ 32 := Nat.pow_lt_pow_right (by omega) hk
  have h2 := Nat.xor_lt_two_pow (n := 32) hx h1
  refine ⟨?_, h2⟩
  rw [show (2 : Nat) ^ 32 = 4294967296 from rfl] at h1
  have e : ((2 ^ k : Nat) : Int) % 4294967296 = ((2 ^ k : Nat) : Int) := Int.emod_eq_of_lt (Int.natCast_nonneg _) (Int.ofNat_lt.2 h1)
  rw [cast_pow, e, u32_xor_nat _ _ hx h1]

theorem ret_bool {a b : Bool} (h : a = b) : Ending.returned (.bool a) = .returned (.bool b) := by rw [h]
theorem and_less (X : Nat) (hX : X < 18446744073709551616) : bits .and .u64 (X : Int) ((X : Int) - 1) = ((X &&& (X - 1) : Nat) : Int) ∨ X = 0 := by
  by_cases h : X = 0
  · exact Or.inr h
  · left
    rw [show (X : Int) - 1 = ((X - 1 : Nat) : Int) from by omega, u64_and_nat _ _ hX (by omega)]
end Go.Proofs.Ytpoplagfhenabaa.fieldTurns
