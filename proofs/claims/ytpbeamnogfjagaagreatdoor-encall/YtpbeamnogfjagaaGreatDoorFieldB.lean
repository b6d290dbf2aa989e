/-
  The model's operations on bits, as layer 3's code uses them, in plain numbers.
  Conditions: none beyond the lemmas' own.
-/
import Derived.Test.YtpbeamnogfjagaaGreatDoorFieldV
import Derived.Test.YtpbeamnogfjagaaGreatDoorWordN
namespace Go.Proofs.YtpbeamnogfjagaaGreatDoor.F
open Go Go.RowKit W
set_option linter.unusedVariables false

theorem cast_pow (k : Nat) : (2 : Int) ^ k = ((2 ^ k : Nat) : Int) := (Int.natCast_pow 2 k).symm
theorem mask_get (x : Nat) (l m : Int) (hx : x < 4294967296) (hl : 0 ≤ l) (hm : 1 ≤ m) :
    bits .and .u32 ((x : Int) / 2 ^ min l.toNat 32) ((2 ^ min m.toNat 32 - 1) % 4294967296) = (get x l.toNat m.toNat : Nat) := by
  generalize l.toNat = a
  generalize m.toNat = b
  have hb : min b 32 ≤ 32 := Nat.min_le_right _ _
  have hp : (2 : Nat) ^ min b 32 ≤ 2 ^ 32 := Nat.pow_le_pow_right (by omega) hb
  have hp0 := Nat.two_pow_pos (min b 32)
  rw [cast_pow, cast_pow, ← Int.natCast_ediv]
  have e1 : (((2 ^ min b 32 : Nat) : Int) - 1) % 4294967296 = ((2 ^ min b 32 - 1 : Nat) : Int) := by
    rw [show (2 : Nat) ^ 32 = 4294967296 from rfl] at hp
    omega
  rw [e1]
  have hd : x / 2 ^ min a 32 ≤ x := Nat.div_le_self _ _
  rw [u32_and_nat _ _ (by omega) (by rw [show (2 : Nat) ^ 32 = 4294967296 from rfl] at hp; omega), Nat.and_two_pow_sub_one_eq_mod]
  congr 1
  unfold get
  rw [Nat.shiftRight_eq_div_pow]
  have e2 : x / 2 ^ min a 32 = x / 2 ^ a := by
    by_cases h : a ≤ 32
    · rw [Nat.min_eq_left h]
    · rw [Nat.min_eq_right (by omega)]
      have : (2 : Nat) ^ 32 ≤ 2 ^ a := Nat.pow_le_pow_right (by omega) (by omega)
      rw [Nat.div_eq_of_lt (by omega), Nat.div_eq_of_lt (by omega)]
  rw [e2]
  have hd : x / 2 ^ a ≤ x := Nat.div_le_self _ _
  generalize x / 2 ^ a = y at *
  by_cases h : b ≤ 32
  · rw [Nat.min_eq_left h]
  · rw [Nat.min_eq_right (by omega)]
    have : (2 : Nat) ^ 32 ≤ 2 ^ b := Nat.pow_le_pow_right (by omega) (by omega)
    rw [Nat.mod_eq_of_lt (by omega), Nat.mod_eq_of_lt (by omega)]
/-- A span laid above what is there. -/
theorem or_up (n g k m : Nat) (hn : n < 18446744073709551616) (hg : g < 2 ^ m) (hk : k + m ≤ 64) :
    bits .or .u64 (n : Int) (IntKind.u64.wrap ((g : Int) * 2 ^ k)) = ((n ||| g <<< k : Nat) : Int) ∧ n ||| g <<< k < 18446744073709551616 := by
  have h1 : g * 2 ^ k < 2 ^ 64 := by
    have h3 : g * 2 ^ k < 2 ^ m * 2 ^ k := Nat.mul_lt_mul_of_pos_right hg (Nat.two_pow_pos k)
    rw [← Nat.pow_add] at h3
    exact Nat.lt_of_lt_of_le h3 (Nat.pow_le_pow_right (by omega) (by omega))
  have h2 : n ||| g <<< k < 2 ^ 64 := by
    rw [Nat.shiftLeft_eq]
    exact Nat.or_lt_two_pow hn h1
  rw [show (2 : Nat) ^ 64 = 18446744073709551616 from rfl] at h1 h2
  refine ⟨?_, h2⟩
  rw [cast_pow, ← Int.natCast_mul, IntKind.wrap_u64, Int.emod_eq_of_lt (by omega) (by omega), u64_or_nat _ _ hn h1, Nat.shiftLeft_eq]
theorem or_up32 (n g k m : Nat) (hn : n < 4294967296) (hg : g < 2 ^ m) (hk : k + m ≤ 32) :
    bits .or .u32 (n : Int) (IntKind.u32.wrap ((g : Int) * 2 ^ k)) = ((n ||| g <<< k : Nat) : Int) ∧ n ||| g <<< k < 4294967296 := by
  have h1 : g * 2 ^ k < 2 ^ 32 := by
    have h3 : g * 2 ^ k < 2 ^ m * 2 ^ k := Nat.mul_lt_mul_of_pos_right hg (Nat.two_pow_pos k)
    rw [← Nat.pow_add] at h3
    exact Nat.lt_of_lt_of_le h3 (Nat.pow_le_pow_right (by omega) (by omega))
  have h2 : n ||| g <<< k < 2 ^ 32 := by
    rw [Nat.shiftLeft_eq]
    exact Nat.or_lt_two_pow hn h1
  rw [show (2 : Nat) ^ 32 = 4294967296 from rfl] at h1 h2
  refine ⟨?_, h2⟩
  rw [cast_pow, ← Int.natCast_mul, IntKind.wrap_u32', Int.emod_eq_of_lt (by omega) (by omega), u32_or_nat _ _ hn h1, Nat.shiftLeft_eq]
/-- The sign, extended and taken as a number with a sign. -/
theorem sext_sgn (n b : Nat) (h1 : 1 ≤ b) (h2 : b ≤ 63) (hn : n < 2 ^ b) : wrap64 (sextV n b) = sgn b n := by
  rw [sextV_eq n b h1 h2]
  have hb : (2 : Nat) ^ b ≤ 2 ^ 63 := Nat.pow_le_pow_right (by omega) h2
  have e : (2 : Nat) ^ b = 2 * 2 ^ (b - 1) := by
    rw [show b = (b - 1) + 1 from by omega, Nat.pow_succ]
    simp; omega
  have em : (n : Int) % 2 ^ b = n := by rw [cast_pow]; exact Int.emod_eq_of_lt (by omega) (by omega)
  rw [em]
  unfold sgn
  rw [cast_pow, cast_pow, w64_def]
  rw [show (2 : Nat) ^ 63 = 9223372036854775808 from rfl] at hb
  by_cases h : n < 2 ^ (b - 1)
  · rw [if_pos (by omega), if_pos h]; omega
  · rw [if_neg (by omega), if_neg h]; omega
/-- The bits of a number below 2^64 that a sign was extended of. -/
def ext (b n : Nat) : Nat := if n < 2 ^ (b - 1) then n else n + 18446744073709551616 - 2 ^ b
theorem u64_sgn (b n : Nat) (h2 : b ≤ 63) (hn : n < 2 ^ b) : IntKind.u64.wrap (sgn b n) = (ext b n : Nat) := by
  have hb : (2 : Nat) ^ b ≤ 2 ^ 63 := Nat.pow_le_pow_right (by omega) h2
  rw [show (2 : Nat) ^ 63 = 9223372036854775808 from rfl] at hb
  unfold sgn ext
  rw [IntKind.wrap_u64, cast_pow]
  split <;> omega
end Go.Proofs.YtpbeamnogfjagaaGreatDoor.F
