/-
  Plain mathematics of layer 1's statements, on: what Sext is by its bits; what is divided of 32 bits.
  Conditions: the numbers are of 64 bits.
-/
import Derived.Test.YtecpghenjannhaaWordM
namespace Go.Proofs.Ytecpghenjannhaa.W
open Go Go.RowKit
set_option linter.unusedVariables false

/-- A sign, extended: by the number modulo 2^n. -/
theorem sextV_eq (x : Int) (n : Nat) (h1 : 1 ≤ n) (h2 : n ≤ 63) :
    sextV x (n : Int) = if x % 2 ^ n < 2 ^ (n - 1) then x % 2 ^ n else x % 2 ^ n - 2 ^ n + 18446744073709551616 := by
  obtain ⟨m, rfl⟩ : ∃ m, n = m + 1 := ⟨n - 1, by omega⟩
  unfold sextV
  rw [if_neg (by omega)]
  rw [show (64 - ((m + 1 : Nat) : Int)).toNat = 64 - (m + 1) from by omega]
  rw [show m + 1 - 1 = m from by omega]
  have hk : (2 : Int) ^ (64 - (m + 1)) * 2 ^ (m + 1) = 18446744073709551616 := by
    rw [← Int.pow_add, show 64 - (m + 1) + (m + 1) = 64 from by omega]; rfl
  have hm : (2 : Int) ^ (m + 1) = 2 * 2 ^ m := by rw [Int.pow_succ]; omega
  have hp := pow_pos' m
  have hkp := pow_pos' (64 - (m + 1))
  generalize (2 : Int) ^ (64 - (m + 1)) = k at *
  generalize (2 : Int) ^ (m + 1) = M at *
  generalize (2 : Int) ^ m = q at *
  have hMp : 0 < M := by omega
  rw [u64_eq, u64_eq, ← hk, Int.mul_comm x k, Int.mul_emod_mul_of_pos _ _ hkp]
  have hy0 := Int.emod_nonneg x (b := M) (by omega)
  have hy1 := Int.emod_lt_of_pos x hMp
  generalize x % M = y at *
  rw [w64_def]
  have hkq : k * q = 9223372036854775808 := by
    have : k * M = 2 * (k * q) := by rw [hm, ← Int.mul_assoc, Int.mul_comm k 2, Int.mul_assoc]
    omega
  split
  · rename_i hlt
    have a1 : 0 ≤ k * y := Int.mul_nonneg (by omega) hy0
    have a2 : k * y < k * q := Int.mul_lt_mul_of_pos_left hlt hkp
    rw [show (k * y + 9223372036854775808) % 18446744073709551616 - 9223372036854775808 = k * y from by omega]
    rw [Int.mul_ediv_cancel_left _ (by omega)]
    rw [hk]
    have : y < 9223372036854775808 := by
      have : M ≤ 18446744073709551616 := by
        have := Int.mul_le_mul_of_nonneg_right (a := 1) (b := k) (c := M) (by omega) (by omega)
        omega
      omega
    omega
  · rename_i hge
    have a1 : k * q ≤ k * y := Int.mul_le_mul_of_nonneg_left (by omega) (by omega)
    have a2 : k * y < k * M := Int.mul_lt_mul_of_pos_left hy1 hkp
    have a3 : k * (y - M) = k * y - k * M := Int.mul_sub _ _ _
    rw [show (k * y + 9223372036854775808) % 18446744073709551616 - 9223372036854775808 = k * (y - M) from by omega]
    rw [Int.mul_ediv_cancel_left _ (by omega), hk]
    have : M ≤ 18446744073709551616 := by
      have := Int.mul_le_mul_of_nonneg_right (a := 1) (b := k) (c := M) (by omega) (by omega)
      omega
    omega

theorem sextV_32 (x : Int) : sextV x 32 = IntKind.u64.wrap (wrap32 x) := by
  have h := sextV_eq x 32 (by omega) (by omega)
  rw [show ((32 : Nat) : Int) = 32 from rfl, show (2 : Int) ^ 32 = 4294967296 from rfl, show (2 : Int) ^ (32 - 1) = 2147483648 from rfl] at h
  rw [h, u64_eq, w32_def]
  split <;> omega
theorem sextV_cong (x y : Int) (h : x % 4294967296 = y % 4294967296) : sextV x 32 = sextV y 32 := by
  rw [sextV_32, sextV_32, w32_def, w32_def]; congr 1; omega
theorem sextV_mod (x : Int) : sextV x 32 % 4294967296 = x % 4294967296 := by
  rw [sextV_32, w32_def, u64_eq]; omega
theorem sextV_again (x : Int) : sextV (sextV x 32) 32 = sextV x 32 := sextV_cong _ _ (sextV_mod x)

/-! ### What is divided of 32 bits -/
theorem d_mul (x y : Int) : x % 4294967296 * y % 4294967296 = x * y % 4294967296 := by
  rw [Int.mul_emod, Int.emod_emod_of_dvd _ (Int.dvd_refl _), ← Int.mul_emod]
theorem d_mul' (x y : Int) : x * (y % 4294967296) % 4294967296 = x * y % 4294967296 := by
  rw [Int.mul_comm, d_mul, Int.mul_comm]
theorem w32_mod (x : Int) : wrap32 x % 4294967296 = x % 4294967296 := by rw [w32_def]; omega
theorem w32_cong (x y : Int) (h : x % 4294967296 = y % 4294967296) : wrap32 x = wrap32 y := by rw [w32_def, w32_def]; omega
theorem div32V_cong (a b c d : Int) (s : Bool) (h1 : c % 4294967296 = a % 4294967296) (h2 : d % 4294967296 = b % 4294967296) : div32V c d s = div32V a b s := by
  unfold div32V; rw [w32_cong c a h1, w32_cong d b h2, h1, h2]
theorem rem32V_cong (a b c d : Int) (s : Bool) (h1 : c % 4294967296 = a % 4294967296) (h2 : d % 4294967296 = b % 4294967296) : rem32V c d s = rem32V a b s := by
  unfold rem32V; rw [w32_cong c a h1, w32_cong d b h2, h1, h2]
theorem u64_mod32 (x : Int) : IntKind.u64.wrap x % 4294967296 = x % 4294967296 := by rw [u64_eq]; omega

theorem div32U_back (a b : Int) : sextV (IntKind.u64.wrap (IntKind.u64.wrap (div32V a b false * b) + rem32V a b false)) 32 = sextV a 32 := by
  apply sextV_cong
  rw [u64_mod32]
  have e1 : IntKind.u64.wrap (div32V a b false * b) % 4294967296 = quoU32 (a % 4294967296) (b % 4294967296) * (b % 4294967296) % 4294967296 := by
    rw [u64_mod32, ← d_mul]
    simp only [div32V, Bool.false_eq_true, if_false]
    rw [sextV_mod, d_mul, d_mul']
  have e2 : rem32V a b false % 4294967296 = remU (a % 4294967296) (b % 4294967296) % 4294967296 := by
    simp only [rem32V, Bool.false_eq_true, if_false]
    rw [sextV_mod]
  have e3 : quoU32 (a % 4294967296) (b % 4294967296) * (b % 4294967296) + remU (a % 4294967296) (b % 4294967296) = a % 4294967296 := by
    unfold quoU32 remU
    split
    · rename_i h; rw [h]; omega
    · have := Int.mul_ediv_add_emod (a % 4294967296) (b % 4294967296)
      rw [Int.mul_comm] at this; exact this
  omega
theorem div32S_back (a b : Int) : sextV (IntKind.u64.wrap (IntKind.u64.wrap (div32V a b true * b) + rem32V a b true)) 32 = sextV a 32 := by
  apply sextV_cong
  rw [u64_mod32]
  have e1 : IntKind.u64.wrap (div32V a b true * b) % 4294967296 = quoS32 (wrap32 a) (wrap32 b) * wrap32 b % 4294967296 := by
    rw [u64_mod32, ← d_mul]
    simp only [div32V, if_true]
    rw [u64_mod32, d_mul, ← d_mul' _ b, ← w32_mod b, d_mul']
  have e2 : rem32V a b true % 4294967296 = remS (wrap32 a) (wrap32 b) % 4294967296 := by
    simp only [rem32V, if_true]
    rw [u64_mod32]
  have e3 : (quoS32 (wrap32 a) (wrap32 b) * wrap32 b + remS (wrap32 a) (wrap32 b)) % 4294967296 = a % 4294967296 := by
    unfold quoS32 remS
    split
    · rename_i h; rw [h]; have := w32_mod a; omega
    · have := Int.mul_tdiv_add_tmod (wrap32 a) (wrap32 b)
      have k : wrap32 ((wrap32 a).tdiv (wrap32 b)) * wrap32 b % 4294967296 = wrap32 b * (wrap32 a).tdiv (wrap32 b) % 4294967296 := by
        rw [← d_mul, w32_mod, d_mul, Int.mul_comm]
      have := w32_mod a
      omega
  omega
theorem div32U_ext (a b : Int) : sextV (div32V a b false) 32 = div32V a b false := by
  simp only [div32V, Bool.false_eq_true, if_false]; exact sextV_again _
theorem rem32S_ext (a b : Int) : sextV (rem32V a b true) 32 = rem32V a b true := by
  simp only [rem32V, if_true]
  have ha := w32_bd a
  rw [sextV_32]
  have h : -2147483648 ≤ remS (wrap32 a) (wrap32 b) ∧ remS (wrap32 a) (wrap32 b) ≤ 2147483647 := by
    unfold remS; split
    · exact ha
    · have := tmod_small (wrap32 a) (wrap32 b) (by omega); omega
  rw [w32_def, u64_eq, u64_eq]
  omega
end Go.Proofs.Ytecpghenjannhaa.W
