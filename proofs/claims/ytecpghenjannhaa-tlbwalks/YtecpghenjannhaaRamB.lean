/-
  Bits of numbers that bytes make: a byte laid above those that are there, and a byte taken out.
  Conditions: none beyond the lemmas' own.
-/
import Derived.WalkKit
import Derived.Test.YtecpghenjannhaaRamV
namespace Go.Proofs.Ytecpghenjannhaa.M
open Go Go.RowKit
set_option linter.unusedVariables false

theorem pow_8 (k : Nat) : (2 : Int) ^ (8 * k) = 256 ^ k := by rw [Int.pow_mul]; rfl
theorem pow_cast (k : Nat) : (256 : Int) ^ k = ((256 ^ k : Nat) : Int) := (Int.natCast_pow 256 k).symm
theorem or_nat (x b i : Nat) (h : x < 2 ^ i) : x ||| 2 ^ i * b = 2 ^ i * b + x := by
  rw [Nat.or_comm]; exact (Nat.two_pow_add_eq_or_of_lt h b).symm
theorem or_u64 (x y : Nat) (hx : x < 18446744073709551616) (hy : y < 18446744073709551616) (hz : x ||| y < 18446744073709551616) :
    bits .or .u64 (x : Int) (y : Int) = ((x ||| y : Nat) : Int) := by
  show IntKind.u64.wrap (((BitVec.ofInt 64 (x : Int) ||| BitVec.ofInt 64 (y : Int)).toNat : Nat) : Int) = _
  rw [BitVec.toNat_or, BitVec.toNat_ofInt, BitVec.toNat_ofInt, IntKind.wrap_u64]
  have ex : ((x : Int) % ((2 ^ 64 : Nat) : Int)).toNat = x := by rw [show (2 : Nat) ^ 64 = 18446744073709551616 from rfl]; omega
  have ey : ((y : Int) % ((2 ^ 64 : Nat) : Int)).toNat = y := by rw [show (2 : Nat) ^ 64 = 18446744073709551616 from rfl]; omega
  rw [ex, ey]; omega
theorem or_step (x b : Int) (k : Nat) (hk : k < 8) (hx : 0 ≤ x ∧ x < 256 ^ k) (hb : 0 ≤ b ∧ b ≤ 255) :
    bits .or .u64 x (IntKind.u64.wrap (b * 2 ^ (8 * k))) = x + 256 ^ k * b := by
  obtain ⟨xn, rfl⟩ : ∃ n : Nat, x = n := ⟨x.toNat, by omega⟩
  obtain ⟨bn, rfl⟩ : ∃ n : Nat, b = n := ⟨b.toNat, by omega⟩
  have h8 : (256 : Nat) ^ (k + 1) ≤ 256 ^ 8 := Nat.pow_le_pow_right (by omega) (by omega)
  rw [Nat.pow_succ] at h8
  have e : (256 : Nat) ^ k = 2 ^ (8 * k) := by rw [Nat.pow_mul]
  rw [pow_8]
  rw [pow_cast] at hx ⊢
  have hxn : xn < 2 ^ (8 * k) := by omega
  rw [← Int.natCast_mul, ← Int.natCast_mul, Nat.mul_comm bn]
  have hm : 256 ^ k * bn ≤ 256 ^ k * 255 := Nat.mul_le_mul_left _ (by omega)
  have ho := or_nat xn bn (8 * k) hxn
  rw [← e] at ho
  rw [IntKind.wrap_u64, Int.emod_eq_of_lt (by omega) (by omega), or_u64 _ _ (by omega) (by omega) (by omega), ho]
  omega
theorem byte_step (x : Int) (k : Nat) : IntKind.u8.wrap (x / 2 ^ (8 * k)) = x / 256 ^ k % 256 := by
  rw [pow_8, IntKind.wrap_u8]
end Go.Proofs.Ytecpghenjannhaa.M
