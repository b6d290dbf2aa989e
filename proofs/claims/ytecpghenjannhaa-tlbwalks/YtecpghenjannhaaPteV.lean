/-
  Plain mathematics of layer 10 (pte): what an entry is, what may be done by it, and which address it makes, as functions of whole numbers.
  Conditions: none; nothing here speaks of the program.
-/
import Derived.Test.YtecpghenjannhaaAluN
namespace Go.Proofs.Ytecpghenjannhaa.P
open Go Go.RowKit W D A
set_option linter.unusedVariables false

/-- The bit that is worth p. -/
def bt (e p : Int) : Bool := decide (e / p % 2 = 1)
def pageV (e : Int) : Int := e / 1024 % 17592186044416
def makeV (p f : Int) : Int := p % 17592186044416 * 1024 + f % 1024
def validV (e : Int) : Bool := bt e 1 && (!bt e 4 || bt e 2) && decide (e / 18014398509481984 = 0)
def leafV (e : Int) : Bool := validV e && (bt e 2 || bt e 8)
def tableV (e : Int) : Bool := validV e && (!bt e 2 && !bt e 4 && !bt e 8 && !bt e 16 && !bt e 64 && !bt e 128)
def knownV (n : Int) : Bool := decide (0 ≤ n ∧ n ≤ 2)
def szV (n : Int) : Int := if n = 0 then 4096 else if n = 1 then 2097152 else 1073741824
def alignedV (e n : Int) : Bool := knownV n && decide (pageV e * 4096 % szV n = 0)
def atV (e va n : Int) : Int := if knownV n = true then pageV e * 4096 - pageV e * 4096 % szV n + va % szV n else pageV e * 4096
def vpnV (va n : Int) : Int := if knownV n = true then va / szV n % 512 else 0
def canonV (va : Int) : Bool := decide (va / 274877906944 = 0) || decide (va / 274877906944 = 67108863)
def byKindV (e kind st : Int) : Bool := if kind = 0 then bt e 8 else if kind = 1 then (if bt st 524288 = true then bt e 2 || bt e 8 else bt e 2) else if kind = 2 then bt e 4 && bt e 128 else false
def byPrivV (e kind priv st : Int) : Bool := if priv = 0 then bt e 16 else if priv = 1 then (if (decide (kind ≠ 0) && bt st 262144) = true then true else !bt e 16) else false
def mayV (e kind priv st : Int) : Bool := leafV e && bt e 64 && byKindV e kind st && byPrivV e kind priv st

theorem page_bd {e : Int} (h : B64 e) : 0 ≤ pageV e ∧ pageV e ≤ 17592186044415 := by unfold B64 at h; unfold pageV; omega
theorem make_bd {p f : Int} : 0 ≤ makeV p f ∧ makeV p f ≤ 18014398509481983 := by unfold makeV; omega
theorem make_64 (p f : Int) : B64 (makeV p f) := by unfold B64 makeV; omega
theorem at_64 {e va n : Int} (h : B64 e) (hv : B64 va) : B64 (atV e va n) := by
  have := page_bd h
  unfold B64 at *
  unfold atV szV
  generalize pageV e = p at *
  repeat' split
  all_goals omega
theorem vpn_bd {va n : Int} (h : B64 va) : 0 ≤ vpnV va n ∧ vpnV va n ≤ 511 := by
  unfold B64 at h
  unfold vpnV szV
  repeat' split
  all_goals omega

/-! ### Bits of the model -/
theorem high_off {x i : Nat} (hx : x < 18446744073709551616) (hi : ¬ i < 64) : x.testBit i = false :=
  Nat.testBit_lt_two_pow (Nat.lt_of_lt_of_le hx (by have : (2 : Nat) ^ 64 ≤ 2 ^ i := Nat.pow_le_pow_right (by omega) (by omega); exact this))
theorem and_nat (x y : Nat) (hx : x < 18446744073709551616) (hy : y < 18446744073709551616) : bits .and .u64 (x : Int) (y : Int) = ((x &&& y : Nat) : Int) := andV_nat x y hx hy
/-- A number's lowest bit, and the rest, apart. -/
theorem peel (x m : Nat) : x &&& m = 2 * (x / 2 &&& m / 2) + x % 2 * (m % 2) := by
  have h1 : (x &&& m) / 2 = x / 2 &&& m / 2 := Nat.and_div_two
  have h2 : (x &&& m) % 2 = x % 2 * (m % 2) := by
    have := low_and' x m
    rcases Nat.mod_two_eq_zero_or_one x with h | h <;> rcases Nat.mod_two_eq_zero_or_one m with k | k <;> rw [h, k] <;> omega
  omega
theorem and_pow2 (x k : Nat) : x &&& 2 ^ k = x / 2 ^ k % 2 * 2 ^ k := by
  induction k generalizing x with
  | zero => rw [peel]; simp
  | succ k ih =>
    rw [peel, show 2 ^ (k + 1) / 2 = 2 ^ k by rw [Nat.pow_succ]; omega, ih, Nat.div_div_eq_div_mul, show 2 * 2 ^ k = 2 ^ (k + 1) by rw [Nat.pow_succ, Nat.mul_comm], show 2 ^ (k + 1) % 2 = 0 by rw [Nat.pow_succ]; omega, Nat.mul_zero, Nat.add_zero, Nat.mul_left_comm, show 2 * 2 ^ k = 2 ^ (k + 1) by rw [Nat.pow_succ, Nat.mul_comm]]
theorem one_bit (k : Nat) (p : Int) (hp : p = ((2 ^ k : Nat) : Int)) (hk : k < 64) (e : Int) (he : B64 e) : bits .and .u64 e p = e / p % 2 * p := by
  obtain ⟨x, rfl, hx⟩ := he.nat
  have : (2 : Nat) ^ k < 2 ^ 64 := Nat.pow_lt_pow_right (by omega) hk
  subst hp
  rw [and_nat x _ hx (by omega), and_pow2]
  simp
theorem a1 (e : Int) (he : B64 e) : bits .and .u64 e 1 = e % 2 := by have := one_bit 0 1 rfl (by omega) e he; omega
theorem a2 (e : Int) (he : B64 e) : bits .and .u64 e 2 = e / 2 % 2 * 2 := one_bit 1 2 rfl (by omega) e he
theorem a4 (e : Int) (he : B64 e) : bits .and .u64 e 4 = e / 4 % 2 * 4 := one_bit 2 4 rfl (by omega) e he
theorem a8 (e : Int) (he : B64 e) : bits .and .u64 e 8 = e / 8 % 2 * 8 := one_bit 3 8 rfl (by omega) e he
theorem a16 (e : Int) (he : B64 e) : bits .and .u64 e 16 = e / 16 % 2 * 16 := one_bit 4 16 rfl (by omega) e he
theorem a64 (e : Int) (he : B64 e) : bits .and .u64 e 64 = e / 64 % 2 * 64 := one_bit 6 64 rfl (by omega) e he
theorem a128 (e : Int) (he : B64 e) : bits .and .u64 e 128 = e / 128 % 2 * 128 := one_bit 7 128 rfl (by omega) e he
theorem aSum (e : Int) (he : B64 e) : bits .and .u64 e 262144 = e / 262144 % 2 * 262144 := one_bit 18 262144 rfl (by omega) e he
theorem aMxr (e : Int) (he : B64 e) : bits .and .u64 e 524288 = e / 524288 % 2 * 524288 := one_bit 19 524288 rfl (by omega) e he
theorem two_bits (k m : Nat) (hkm : k ≠ m) (p q : Int) (hp : p = ((2 ^ k : Nat) : Int)) (hq : q = ((2 ^ m : Nat) : Int)) (hk : k < 63) (hm : m < 63) (e : Int) (he : B64 e) : bits .and .u64 e (p + q) = e / p % 2 * p + e / q % 2 * q := by
  obtain ⟨x, rfl, hx⟩ := he.nat
  have h1 : (2 : Nat) ^ k < 2 ^ 63 := Nat.pow_lt_pow_right (by omega) hk
  have h2 : (2 : Nat) ^ m < 2 ^ 63 := Nat.pow_lt_pow_right (by omega) hm
  subst hp; subst hq
  have a := nat_and_or (2 ^ k) (2 ^ m)
  have z : (2 : Nat) ^ k &&& 2 ^ m = 0 := Nat.eq_of_testBit_eq fun i => by
    rw [Nat.testBit_and, Nat.testBit_two_pow, Nat.testBit_two_pow, Nat.zero_testBit]
    by_cases e1 : k = i <;> by_cases e2 : m = i <;> simp_all
  have d : x &&& (2 ^ k ||| 2 ^ m) = (x &&& 2 ^ k) ||| (x &&& 2 ^ m) := Nat.and_or_distrib_left ..
  have z2 : (x &&& 2 ^ k) &&& (x &&& 2 ^ m) = 0 := Nat.eq_of_testBit_eq fun i => by
    have := congrArg (·.testBit i) z
    simp only [Nat.testBit_and, Nat.zero_testBit] at this ⊢
    cases x.testBit i <;> simp_all
  have b := nat_and_or (x &&& 2 ^ k) (x &&& 2 ^ m)
  rw [← Int.natCast_add, and_nat x _ hx (by omega), show 2 ^ k + 2 ^ m = 2 ^ k ||| 2 ^ m by omega, d, show (x &&& 2 ^ k ||| x &&& 2 ^ m) = (x &&& 2 ^ k) + (x &&& 2 ^ m) by omega, and_pow2, and_pow2]
  simp
theorem a10 (e : Int) (he : B64 e) : bits .and .u64 e 10 = e / 2 % 2 * 2 + e / 8 % 2 * 8 := two_bits 1 3 (by omega) 2 8 rfl rfl (by omega) (by omega) e he
theorem a132 (e : Int) (he : B64 e) : bits .and .u64 e 132 = e / 4 % 2 * 4 + e / 128 % 2 * 128 := two_bits 2 7 (by omega) 4 128 rfl rfl (by omega) (by omega) e he
theorem a222 (e : Int) (he : B64 e) : bits .and .u64 e 222 = e / 2 % 2 * 2 + e / 4 % 2 * 4 + e / 8 % 2 * 8 + e / 16 % 2 * 16 + e / 64 % 2 * 64 + e / 128 % 2 * 128 := by
  obtain ⟨x, rfl, hx⟩ := he.nat
  have h := and_nat x 222 hx (by omega)
  rw [show (222 : Int) = ((222 : Nat) : Int) from rfl, h, peel x 222, peel (x / 2) (222 / 2), peel (x / 2 / 2) (222 / 2 / 2), peel (x / 2 / 2 / 2) (222 / 2 / 2 / 2), peel (x / 2 / 2 / 2 / 2) (222 / 2 / 2 / 2 / 2), peel (x / 2 / 2 / 2 / 2 / 2) (222 / 2 / 2 / 2 / 2 / 2), peel (x / 2 / 2 / 2 / 2 / 2 / 2) (222 / 2 / 2 / 2 / 2 / 2 / 2), peel (x / 2 / 2 / 2 / 2 / 2 / 2 / 2) (222 / 2 / 2 / 2 / 2 / 2 / 2 / 2)]
  simp only [Nat.reduceDiv, Nat.reduceMod, Nat.and_zero]
  omega
theorem aHigh (e : Int) (he : B64 e) : bits .and .u64 e 18428729675200069632 = e / 18014398509481984 * 18014398509481984 := by
  obtain ⟨x, rfl, hx⟩ := he.nat
  have h := and_nat x 18428729675200069632 hx (by omega)
  rw [show (18428729675200069632 : Int) = ((18428729675200069632 : Nat) : Int) from rfl, h]
  have e : x &&& 18428729675200069632 = x / 2 ^ 54 * 2 ^ 54 := Nat.eq_of_testBit_eq fun i => by
    rw [Nat.testBit_and, show (18428729675200069632 : Nat) = 2 ^ 64 - (18014398509481983 + 1) from rfl, Nat.testBit_two_pow_sub_succ (by omega), Nat.testBit_mul_two_pow, Nat.testBit_div_two_pow, show (18014398509481983 : Nat) = 2 ^ 54 - 1 from rfl, Nat.testBit_two_pow_sub_one]
    by_cases hi : i < 64
    · by_cases h54 : i < 54
      · simp [h54]; intro h; omega
      · simp only [hi, h54, decide_true, decide_false, Bool.not_false, Bool.and_true, show 54 ≤ i by omega, Bool.true_and]
        congr 1; omega
    · have h54 : i - 54 + 54 = i := by omega
      simp [high_off hx hi, h54]
  rw [e, show (2 : Nat) ^ 54 = 18014398509481984 from rfl]
  omega
/-- The lowest bits. -/
theorem aLow (x : Int) (k : Nat) (hk : k ≤ 63) (hx : B64 x) : bits .and .u64 x (2 ^ k - 1) = x % 2 ^ k := by
  obtain ⟨x, rfl, kx⟩ := hx.nat
  have h1 : (2 : Nat) ^ k ≤ 2 ^ 63 := Nat.pow_le_pow_right (by omega) hk
  have h0 := Nat.two_pow_pos k
  rw [show (2 : Int) ^ k = ((2 ^ k : Nat) : Int) from (Int.natCast_pow 2 k).symm, show ((2 ^ k : Nat) : Int) - 1 = ((2 ^ k - 1 : Nat) : Int) by omega, and_nat x _ kx (by omega), Nat.and_two_pow_sub_one_eq_mod]
  simp
end Go.Proofs.Ytecpghenjannhaa.P
