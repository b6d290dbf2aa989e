/-
  Plain mathematics of layer 10 (pte): what an entry is, what may be done by it, and which address it makes, as functions of whole numbers.
  Plain mathematics of layer 10, on: bits that are set and cleared; what follows of who may do what.
  Plain mathematics of layer 10, on: addresses put together of their parts.
  Conditions: each part's own: the arguments are numbers of their kinds; the tables hold what the program's text lays.
-/
import Derived.Test.YtkfmcbhoendocaaLayW
section
namespace Go.Proofs.Ytkfmcbhoendocaa.P
open Go Go.RowKit W D A
set_option linter.unusedVariables false

/-- The bit that is worth p. -/
def bt (e p : Int) : Bool := decide (e / p % 2 = 1)
def pageV (e : Int) : Int := e / 1024 % 17592186044416
def makeV (p f : Int) : Int := p % 17592186044416 * 1024 + f % 1024
def validV (e : Int) : Bool := bt e 1 && (!bt e 4 || bt e 2) && decide (e / 18014398509481984 = 0)
def leafV (e : Int) : Bool := validV e && (bt e 2 || bt e 8)
def tableV (e : Int) : Bool := validV e && (!bt e 2 && !bt e 4 && !bt e 8 && !bt e 16 && !bt e 64 && !bt e 128)
def knownV (n : Int) : Bool := decide (0 ≤ n ∧ n ≤ 2)
def szV (n : Int) : Int := if n = 0 then 4096 else if n = 1 then 2097152 else 1073741824
def alignedV (e n : Int) : Bool := knownV n && decide (pageV e * 4096 % szV n = 0)
def atV (e va n : Int) : Int := if knownV n = true then pageV e * 4096 - pageV e * 4096 % szV n + va % szV n else pageV e * 4096
def vpnV (va n : Int) : Int := if knownV n = true then va / szV n % 512 else 0
def canonV (va : Int) : Bool := decide (va / 274877906944 = 0) || decide (va / 274877906944 = 67108863)
def byKindV (e kind st : Int) : Bool := if kind = 0 then bt e 8 else if kind = 1 then (if bt st 524288 = true then bt e 2 || bt e 8 else bt e 2) else if kind = 2 then bt e 4 && bt e 128 else false
def byPrivV (e kind priv st : Int) : Bool := if priv = 0 then bt e 16 else if priv = 1 then (if (decide (kind ≠ 0) && bt st 262144) = true then true else !bt e 16) else false
def mayV (e kind priv st : Int) : Bool := leafV e && bt e 64 && byKindV e kind st && byPrivV e kind priv st

theorem page_bd {e : Int} (h : B64 e) : 0 ≤ pageV e ∧ pageV e ≤ 17592186044415 := by unfold B64 at h; unfold pageV; omega
theorem make_bd {p f : Int} : 0 ≤ makeV p f ∧ makeV p f ≤ 18014398509481983 := by unfold makeV; omega
theorem make_64 (p f : Int) : B64 (makeV p f) := by unfold B64 makeV; omega
theorem at_64 {e va n : Int} (h : B64 e) (hv : B64 va) : B64 (atV e va n) := by
  have := page_bd h
  unfold B64 at *
  unfold atV szV
  generalize pageV e = p at *
  repeat' split
  all_goals omega
theorem vpn_bd {va n : Int} (h : B64 va) : 0 ≤ vpnV va n ∧ vpnV va n ≤ 511 := by
  unfold B64 at h
  unfold vpnV szV
  repeat' split
  all_goals omega

/-! ### Bits of the model -/
theorem high_off {x i : Nat} (hx : x < 18446744073709551616) (hi : ¬ i < 64) : x.testBit i = false :=
  Nat.testBit_lt_two_pow (Nat.lt_of_lt_of_le hx (by have : (2 : Nat) ^ 64 ≤ 2 ^ i := Nat.pow_le_pow_right (by omega) (by omega); exact this))
theorem and_nat (x y : Nat) (hx : x < 18446744073709551616) (hy : y < 18446744073709551616) : bits .and .u64 (x : Int) (y : Int) = ((x &&& y : Nat) : Int) := andV_nat x y hx hy
/-- A number's lowest bit, and the rest, apart. -/
theorem peel (x m : Nat) : x &&& m = 2 * (x / 2 &&& m / 2) + x % 2 * (m % 2) := by
  have h1 : (x &&& m) / 2 = x / 2 &&& m / 2 := Nat.and_div_two
  have h2 : (x &&& m) % 2 = x % 2 * (m % 2) := by
    have := low_and' x m
    rcases Nat.mod_two_eq_zero_or_one x with h | h <;> rcases Nat.mod_two_eq_zero_or_one m with k | k <;> rw [h, k] <;> omega
  omega
theorem and_pow2 (x k : Nat) : x &&& 2 ^ k = x / 2 ^ k % 2 * 2 ^ k := by
  induction k generalizing x with
  | zero => rw [peel]; simp
  | succ k ih =>
    rw [peel, show 2 ^ (k + 1) / 2 = 2 ^ k by rw [Nat.pow_succ]; omega, ih, Nat.div_div_eq_div_mul, show 2 * 2 ^ k = 2 ^ (k + 1) by rw [Nat.pow_succ, Nat.mul_comm], show 2 ^ (k + 1) % 2 = 0 by rw [Nat.pow_succ]; omega, Nat.mul_zero, Nat.add_zero, Nat.mul_left_comm, show 2 * 2 ^ k = 2 ^ (k + 1) by rw [Nat.pow_succ, Nat.mul_comm]]
theorem one_bit (k : Nat) (p : Int) (hp : p = ((2 ^ k : Nat) : Int)) (hk : k < 64) (e : Int) (he : B64 e) : bits .and .u64 e p = e / p % 2 * p := by
  obtain ⟨x, rfl, hx⟩ := he.nat
  have : (2 : Nat) ^ k < 2 ^ 64 := Nat.pow_lt_pow_right (by omega) hk
  subst hp
  rw [and_nat x _ hx (by omega), and_pow2]
  simp
theorem a1 (e : Int) (he : B64 e) : bits .and .u64 e 1 = e % 2 := by have := one_bit 0 1 rfl (by omega) e he; omega
theorem a2 (e : Int) (he : B64 e) : bits .and .u64 e 2 = e / 2 % 2 * 2 := one_bit 1 2 rfl (by omega) e he
theorem a4 (e : Int) (he : B64 e) : bits .and .u64 e 4 = e / 4 % 2 * 4 := one_bit 2 4 rfl (by omega) e he
theorem a8 (e : Int) (he : B64 e) : bits .and .u64 e 8 = e / 8 % 2 * 8 := one_bit 3 8 rfl (by omega) e he
theorem a16 (e : Int) (he : B64 e) : bits .and .u64 e 16 = e / 16 % 2 * 16 := one_bit 4 16 rfl (by omega) e he
theorem a64 (e : Int) (he : B64 e) : bits .and .u64 e 64 = e / 64 % 2 * 64 := one_bit 6 64 rfl (by omega) e he
theorem a128 (e : Int) (he : B64 e) : bits .and .u64 e 128 = e / 128 % 2 * 128 := one_bit 7 128 rfl (by omega) e he
theorem aSum (e : Int) (he : B64 e) : bits .and .u64 e 262144 = e / 262144 % 2 * 262144 := one_bit 18 262144 rfl (by omega) e he
theorem aMxr (e : Int) (he : B64 e) : bits .and .u64 e 524288 = e / 524288 % 2 * 524288 := one_bit 19 524288 rfl (by omega) e he
theorem two_bits (k m : Nat) (hkm : k ≠ m) (p q : Int) (hp : p = ((2 ^ k : Nat) : Int)) (hq : q = ((2 ^ m : Nat) : Int)) (hk : k < 63) (hm : m < 63) (e : Int) (he : B64 e) : bits .and .u64 e (p + q) = e / p % 2 * p + e / q % 2 * q := by
  obtain ⟨x, rfl, hx⟩ := he.nat
  have h1 : (2 : Nat) ^ k < 2 ^ 63 := Nat.pow_lt_pow_right (by omega) hk
  have h2 : (2 : Nat) ^ m < 2 ^ 63 := Nat.pow_lt_pow_right (by omega) hm
  subst hp; subst hq
  have a := nat_and_or (2 ^ k) (2 ^ m)
  have z : (2 : Nat) ^ k &&& 2 ^ m = 0 := Nat.eq_of_testBit_eq fun i => by
    rw [Nat.testBit_and, Nat.testBit_two_pow, Nat.testBit_two_pow, Nat.zero_testBit]
    by_cases e1 : k = i <;> by_cases e2 : m = i <;> simp_all
  have d : x &&& (2 ^ k ||| 2 ^ m) = (x &&& 2 ^ k) ||| (x &&& 2 ^ m) := Nat.and_or_distrib_left ..
  have z2 : (x &&& 2 ^ k) &&& (x &&& 2 ^ m) = 0 := Nat.eq_of_testBit_eq fun i => by
    have := congrArg (·.testBit i) z
    simp only [Nat.testBit_and, Nat.zero_testBit] at this ⊢
    cases x.testBit i <;> simp_all
  have b := nat_and_or (x &&& 2 ^ k) (x &&& 2 ^ m)
  rw [← Int.natCast_add, and_nat x _ hx (by omega), show 2 ^ k + 2 ^ m = 2 ^ k ||| 2 ^ m by omega, d, show (x &&& 2 ^ k ||| x &&& 2 ^ m) = (x &&& 2 ^ k) + (x &&& 2 ^ m) by omega, and_pow2, and_pow2]
  simp
theorem a10 (e : Int) (he : B64 e) : bits .and .u64 e 10 = e / 2 % 2 * 2 + e / 8 % 2 * 8 := two_bits 1 3 (by omega) 2 8 rfl rfl (by omega) (by omega) e he
theorem a132 (e : Int) (he : B64 e) : bits .and .u64 e 132 = e / 4 % 2 * 4 + e / 128 % 2 * 128 := two_bits 2 7 (by omega) 4 128 rfl rfl (by omega) (by omega) e he
theorem a222 (e : Int) (he : B64 e) : bits .and .u64 e 222 = e / 2 % 2 * 2 + e / 4 % 2 * 4 + e / 8 % 2 * 8 + e / 16 % 2 * 16 + e / 64 % 2 * 64 + e / 128 % 2 * 128 := by
  obtain ⟨x, rfl, hx⟩ := he.nat
  have h := and_nat x 222 hx (by omega)
  rw [show (222 : Int) = ((222 : Nat) : Int) from rfl, h, peel x 222, peel (x / 2) (222 / 2), peel (x / 2 / 2) (222 / 2 / 2), peel (x / 2 / 2 / 2) (222 / 2 / 2 / 2), peel (x / 2 / 2 / 2 / 2) (222 / 2 / 2 / 2 / 2), peel (x / 2 / 2 / 2 / 2 / 2) (222 / 2 / 2 / 2 / 2 / 2), peel (x / 2 / 2 / 2 / 2 / 2 / 2) (222 / 2 / 2 / 2 / 2 / 2 / 2), peel (x / 2 / 2 / 2 / 2 / 2 / 2 / 2) (222 / 2 / 2 / 2 / 2 / 2 / 2 / 2)]
  simp only [Nat.reduceDiv, Nat.reduceMod, Nat.and_zero]
  omega
theorem aHigh (e : Int) (he : B64 e) : bits .and .u64 e 18428729675200069632 = e / 18014398509481984 * 18014398509481984 := by
  obtain ⟨x, rfl, hx⟩ := he.nat
  have h := and_nat x 18428729675200069632 hx (by omega)
  rw [show (18428729675200069632 : Int) = ((18428729675200069632 : Nat) : Int) from rfl, h]
  have e : x &&& 18428729675200069632 = x / 2 ^ 54 * 2 ^ 54 := Nat.eq_of_testBit_eq fun i => by
    rw [Nat.testBit_and, show (18428729675200069632 : Nat) = 2 ^ 64 - (18014398509481983 + 1) from rfl, Nat.testBit_two_pow_sub_succ (by omega), Nat.testBit_mul_two_pow, Nat.testBit_div_two_pow, show (18014398509481983 : Nat) = 2 ^ 54 - 1 from rfl, Nat.testBit_two_pow_sub_one]
    by_cases hi : i < 64
    · by_cases h54 : i < 54
      · simp [h54]; intro h; omega
      · simp only [hi, h54, decide_true, decide_false, Bool.not_false, Bool.and_true, show 54 ≤ i by omega, Bool.true_and]
        congr 1; omega
    · have h54 : i - 54 + 54 = i := by omega
      simp [high_off hx hi, h54]
  rw [e, show (2 : Nat) ^ 54 = 18014398509481984 from rfl]
  omega
/-- The lowest bits. -/
theorem aLow (x : Int) (k : Nat) (hk : k ≤ 63) (hx : B64 x) : bits .and .u64 x (2 ^ k - 1) = x % 2 ^ k := by
  obtain ⟨x, rfl, kx⟩ := hx.nat
  have h1 : (2 : Nat) ^ k ≤ 2 ^ 63 := Nat.pow_le_pow_right (by omega) hk
  have h0 := Nat.two_pow_pos k
  rw [show (2 : Int) ^ k = ((2 ^ k : Nat) : Int) from (Int.natCast_pow 2 k).symm, show ((2 ^ k : Nat) : Int) - 1 = ((2 ^ k - 1 : Nat) : Int) by omega, and_nat x _ kx (by omega), Nat.and_two_pow_sub_one_eq_mod]
  simp
end Go.Proofs.Ytkfmcbhoendocaa.P
end

section
namespace Go.Proofs.Ytkfmcbhoendocaa.P
open Go Go.RowKit W D A
set_option linter.unusedVariables false

theorem or_one (k : Nat) (p : Int) (hp : p = ((2 ^ k : Nat) : Int)) (hk : k < 64) (e : Int) (he : B64 e) : bits .or .u64 e p = e + p - e / p % 2 * p := by
  have hb : (2 : Nat) ^ k < 2 ^ 64 := Nat.pow_lt_pow_right (by omega) hk
  have hpb : B64 p := by
    subst hp
    generalize (2 : Nat) ^ k = q at *
    unfold B64; omega
  have h := and_or e p he hpb
  have g := one_bit k p hp hk e he
  unfold andV orV at h
  rw [g] at h
  generalize e / p % 2 * p = t at *
  omega
theorem not_one (k : Nat) (p : Int) (hp : p = ((2 ^ k : Nat) : Int)) (hk : k < 64) (e : Int) (he : B64 e) : bits .andNot .u64 e p = e - e / p % 2 * p := by
  obtain ⟨x, rfl, hx⟩ := he.nat
  have hb : (2 : Nat) ^ k < 2 ^ 64 := Nat.pow_lt_pow_right (by omega) hk
  have g := one_bit k p hp hk x he
  subst hp
  have hn := and_nat x (2 ^ k) hx (by omega)
  rw [hn] at g
  rw [u64_andNot_nat x (2 ^ k) hx (by omega)]
  have hy : ∀ i, (x &&& (18446744073709551615 - 2 ^ k)).testBit i = (x.testBit i && !(2 ^ k).testBit i) := fun i => by
    rw [Nat.testBit_and]
    by_cases hi : i < 64
    · have h := Nat.testBit_two_pow_sub_succ (n := 64) (x := 2 ^ k) hb i
      rw [show 18446744073709551615 - 2 ^ k = 2 ^ 64 - (2 ^ k + 1) by omega, h]
      simp [hi]
    · rw [high_off hx hi]; rfl
  have a := nat_and_or (x &&& 2 ^ k) (x &&& (18446744073709551615 - 2 ^ k))
  have z : (x &&& 2 ^ k) &&& (x &&& (18446744073709551615 - 2 ^ k)) = 0 := Nat.eq_of_testBit_eq fun i => by
    rw [Nat.testBit_and, hy, Nat.testBit_and, Nat.zero_testBit]
    cases x.testBit i <;> cases ((2 : Nat) ^ k).testBit i <;> rfl
  have o : (x &&& 2 ^ k) ||| (x &&& (18446744073709551615 - 2 ^ k)) = x := Nat.eq_of_testBit_eq fun i => by
    rw [Nat.testBit_or, hy, Nat.testBit_and]
    cases x.testBit i <;> cases ((2 : Nat) ^ k).testBit i <;> rfl
  omega
theorem bt_true {e p : Int} : bt e p = true ↔ e / p % 2 = 1 := by unfold bt; exact decide_eq_true_iff
theorem bt_false {e p : Int} : bt e p = false ↔ ¬ e / p % 2 = 1 := by unfold bt; exact decide_eq_false_iff_not

/-! ### Leaves, tables -/
theorem no_both {e : Int} : leafV e = true → tableV e = false := by
  unfold leafV tableV
  cases validV e <;> cases bt e 2 <;> cases bt e 4 <;> cases bt e 8 <;> simp
theorem leaf_valid {e : Int} (h : leafV e = true) : validV e = true := by unfold leafV at h; simp only [Bool.and_eq_true] at h; exact h.1
theorem table_valid {e : Int} (h : tableV e = true) : validV e = true := by unfold tableV at h; simp only [Bool.and_eq_true] at h; exact h.1
theorem may_parts {e k p s : Int} (h : mayV e k p s = true) : leafV e = true ∧ bt e 64 = true ∧ byKindV e k s = true ∧ byPrivV e k p s = true := by
  unfold mayV at h; simp only [Bool.and_eq_true] at h; exact ⟨h.1.1.1, h.1.1.2, h.1.2, h.2⟩
theorem user_bit {e k s : Int} (h : byPrivV e k 0 s = true) : bt e 16 = true := h
theorem super_bit {e k s : Int} (h : byPrivV e k 1 s = true) : bt e 16 = false ∨ k ≠ 0 ∧ bt s 262144 = true := by
  unfold byPrivV at h
  rw [if_neg (by decide), if_pos rfl] at h
  by_cases hc : (decide (k ≠ 0) && bt s 262144) = true
  · right; simpa using hc
  · rw [if_neg hc] at h; left; simpa using h
theorem both_bit {e k s : Int} (hu : byPrivV e k 0 s = true) (hs : byPrivV e k 1 s = true) : k ≠ 0 ∧ bt s 262144 = true := by
  rcases super_bit hs with h | h
  · rw [user_bit hu] at h; cases h
  · exact h
theorem store_bits {e s : Int} (h : byKindV e 2 s = true) : bt e 4 = true ∧ bt e 128 = true := by
  unfold byKindV at h; simpa using h
theorem more_lets {e k s s' : Int} (h : mayV e k 1 s = true) (h1 : bt s' 262144 = true) (h2 : bt s' 524288 = true) : mayV e k 1 s' = true := by
  obtain ⟨a, b, c, d⟩ := may_parts h
  have c' : byKindV e k s' = true := by
    unfold byKindV at c ⊢
    rw [h2, if_pos rfl]
    by_cases k0 : k = 0
    · rw [if_pos k0] at c ⊢; exact c
    · rw [if_neg k0] at c ⊢
      by_cases k1 : k = 1
      · rw [if_pos k1] at c ⊢
        split at c
        · exact c
        · rw [c]; rfl
      · rw [if_neg k1] at c ⊢; exact c
  have d' : byPrivV e k 1 s' = true := by
    unfold byPrivV
    rw [if_neg (by decide), if_pos rfl, h1, Bool.and_true]
    by_cases k0 : k = 0
    · rw [if_neg (by simpa using k0)]
      rcases super_bit d with h | h
      · rw [h]; rfl
      · exact absurd k0 h.1
    · rw [if_pos (by simpa using k0)]
  unfold mayV
  rw [a, b, c', d']; rfl
/-- A status with Sum and Mxr. -/
def moreS (s : Int) : Int := bits .or .u64 (bits .or .u64 s 262144) 524288
theorem moreS_all (s : Int) (hs : B64 s) : B64 (bits .or .u64 s 262144) ∧ B64 (moreS s) ∧ bt (moreS s) 262144 = true ∧ bt (moreS s) 524288 = true := by
  have e1 := or_one 18 262144 rfl (by omega) s hs
  have b1 : B64 (bits .or .u64 s 262144) := by rw [e1]; unfold B64 at *; omega
  have e2 := or_one 19 524288 rfl (by omega) _ b1
  have e3 : moreS s = bits .or .u64 s 262144 + 524288 - bits .or .u64 s 262144 / 524288 % 2 * 524288 := e2
  rw [e1] at e3
  have b1' := b1
  rw [e1] at b1'
  refine ⟨b1, ?_, ?_, ?_⟩
  · rw [e3]; unfold B64 at *; omega
  · rw [bt_true, e3]; unfold B64 at *; omega
  · rw [bt_true, e3]; unfold B64 at *; omega
/-- What PteApart asks for. -/
theorem apart {e k s : Int} (he : B64 e) (hs : B64 s) :
    (leafV e = true → tableV e = false) ∧ (leafV e = true → validV e = true) ∧ (tableV e = true → validV e = true) ∧
    (mayV e k 0 s = true → leafV e = true ∧ bits .and .u64 e 64 = 64 ∧ bits .and .u64 e 16 = 16) ∧
    (mayV e k 1 s = true → leafV e = true ∧ bits .and .u64 e 64 = 64 ∧ mayV e k 1 (moreS s) = true) ∧
    (mayV e k 0 s = true → mayV e k 1 s = true → k ≠ 0 ∧ bits .and .u64 s 262144 = 262144) ∧
    (mayV e k 0 s = true → k = 2 → bits .and .u64 e 4 = 4 ∧ bits .and .u64 e 128 = 128) ∧
    (mayV e k 1 s = true → k = 0 → bits .and .u64 e 16 = 0) := by
  refine ⟨no_both, leaf_valid, table_valid, fun h => ?_, fun h => ?_, fun hu hv => ?_, fun h hk => ?_, fun h hk => ?_⟩
  · obtain ⟨a, b, c, d⟩ := may_parts h
    refine ⟨a, ?_, ?_⟩
    · rw [a64 e he, bt_true.1 b]; rfl
    · rw [a16 e he, bt_true.1 (user_bit d)]; rfl
  · obtain ⟨a, b, c, d⟩ := may_parts h
    refine ⟨a, ?_, more_lets h (moreS_all s hs).2.2.1 (moreS_all s hs).2.2.2⟩
    rw [a64 e he, bt_true.1 b]; rfl
  · obtain ⟨_, _, _, d⟩ := may_parts hu
    obtain ⟨_, _, _, d'⟩ := may_parts hv
    have := both_bit d d'
    refine ⟨this.1, ?_⟩
    rw [aSum s hs, bt_true.1 this.2]; rfl
  · subst hk
    obtain ⟨_, _, c, _⟩ := may_parts h
    have := store_bits c
    rw [a4 e he, a128 e he, bt_true.1 this.1, bt_true.1 this.2]; exact ⟨rfl, rfl⟩
  · subst hk
    obtain ⟨_, _, _, d⟩ := may_parts h
    rcases super_bit d with hb | hb
    · rw [a16 e he]
      have := bt_false.1 hb
      omega
    · exact absurd rfl hb.1

/-! ### What PteFaults asks for -/
theorem off_valid {e : Int} (he : B64 e) : B64 (bits .andNot .u64 e 1) ∧ validV (bits .andNot .u64 e 1) = false := by
  rw [not_one 0 1 rfl (by omega) e he]
  refine ⟨by unfold B64 at *; omega, ?_⟩
  have : bt (e - e / 1 % 2 * 1) 1 = false := bt_false.2 (by omega)
  unfold validV
  rw [this]; rfl
theorem leaf_not {e : Int} (h : validV e = false) : leafV e = false := by unfold leafV; rw [h]; rfl
theorem table_not {e : Int} (h : validV e = false) : tableV e = false := by unfold tableV; rw [h]; rfl
theorem high_valid {e : Int} (he : B64 e) (j : Nat) (hj : 54 ≤ j ∧ j ≤ 63) : B64 (bits .or .u64 e (2 ^ j)) ∧ validV (bits .or .u64 e (2 ^ j)) = false := by
  have hp : ((2 : Int) ^ j) = ((2 ^ j : Nat) : Int) := (Int.natCast_pow 2 j).symm
  rw [or_one j (2 ^ j) hp (by omega) e he]
  have hd : ¬ (e + 2 ^ j - e / 2 ^ j % 2 * 2 ^ j) / 18014398509481984 = 0 ∧ B64 (e + 2 ^ j - e / 2 ^ j % 2 * 2 ^ j) := by
    unfold B64 at *
    rcases (show j = 54 ∨ j = 55 ∨ j = 56 ∨ j = 57 ∨ j = 58 ∨ j = 59 ∨ j = 60 ∨ j = 61 ∨ j = 62 ∨ j = 63 by omega) with rfl | rfl | rfl | rfl | rfl | rfl | rfl | rfl | rfl | rfl <;> omega
  refine ⟨hd.2, ?_⟩
  unfold validV
  rw [decide_eq_false hd.1, Bool.and_false]
def oddV (e : Int) : Int := bits .or .u64 (bits .or .u64 (bits .andNot .u64 e 2) 4) 1
theorem odd_valid {e : Int} (he : B64 e) : B64 (bits .andNot .u64 e 2) ∧ B64 (bits .or .u64 (bits .andNot .u64 e 2) 4) ∧ B64 (oddV e) ∧ validV (oddV e) = false := by
  have e1 := not_one 1 2 rfl (by omega) e he
  have b1 : B64 (bits .andNot .u64 e 2) := by rw [e1]; unfold B64 at *; omega
  have e2 := or_one 2 4 rfl (by omega) _ b1
  have b2 : B64 (bits .or .u64 (bits .andNot .u64 e 2) 4) := by rw [e2]; unfold B64 at *; omega
  have e3 : oddV e = _ := or_one 0 1 rfl (by omega) _ b2
  rw [e2, e1] at e3
  rw [e1] at b1
  unfold B64 at *
  have x2 : bt (oddV e) 2 = false := bt_false.2 (by omega)
  have x4 : bt (oddV e) 4 = true := bt_true.2 (by omega)
  refine ⟨by rw [e1]; exact b1, b2, by omega, ?_⟩
  unfold validV
  rw [x2, x4, Bool.not_true, Bool.or_false, Bool.and_false, Bool.false_and]
theorem fresh_may {e k p s : Int} (he : B64 e) : B64 (bits .andNot .u64 e 64) ∧ mayV (bits .andNot .u64 e 64) k p s = false := by
  rw [not_one 6 64 rfl (by omega) e he]
  refine ⟨by unfold B64 at *; omega, ?_⟩
  have : bt (e - e / 64 % 2 * 64) 64 = false := bt_false.2 (by omega)
  unfold mayV
  rw [this, Bool.and_false, Bool.false_and, Bool.false_and]
theorem clean_may {e p s : Int} (he : B64 e) : B64 (bits .andNot .u64 e 128) ∧ mayV (bits .andNot .u64 e 128) 2 p s = false := by
  rw [not_one 7 128 rfl (by omega) e he]
  refine ⟨by unfold B64 at *; omega, ?_⟩
  have : bt (e - e / 128 % 2 * 128) 128 = false := bt_false.2 (by omega)
  have hk : byKindV (e - e / 128 % 2 * 128) 2 s = false := by
    unfold byKindV
    rw [if_neg (by decide), if_neg (by decide), if_pos rfl, this, Bool.and_false]
  unfold mayV
  rw [hk, Bool.and_false, Bool.false_and]
theorem may_within {e k p s : Int} (h : mayV e k p s = true) : (0 ≤ k ∧ k ≤ 2) ∧ 0 ≤ p ∧ p ≤ 1 := by
  obtain ⟨_, _, c, d⟩ := may_parts h
  constructor
  · apply Classical.byContradiction
    intro hk
    unfold byKindV at c
    rw [if_neg (by omega), if_neg (by omega), if_neg (by omega)] at c
    cases c
  · apply Classical.byContradiction
    intro hp
    unfold byPrivV at d
    rw [if_neg (by omega), if_neg (by omega)] at d
    cases d
end Go.Proofs.Ytkfmcbhoendocaa.P
end

section
namespace Go.Proofs.Ytkfmcbhoendocaa.P
open Go Go.RowKit W D A
set_option linter.unusedVariables false

theorem make_page {p f : Int} : pageV (makeV p f) = p % 17592186044416 := by unfold pageV makeV; omega
theorem make_flags {p f : Int} : makeV p f % 1024 = f % 1024 := by unfold makeV; omega
theorem parts {va : Int} (hv : B64 va) : vpnV va 2 * 1073741824 + vpnV va 1 * 2097152 + vpnV va 0 * 4096 + va % 4096 = va % 549755813888 := by
  unfold B64 at hv
  rw [show vpnV va 2 = va / 1073741824 % 512 from rfl, show vpnV va 1 = va / 2097152 % 512 from rfl, show vpnV va 0 = va / 4096 % 512 from rfl]
  omega
theorem at_n (k : Int) (hk : k = 0 ∨ k = 1 ∨ k = 2) {p f va : Int} (hv : B64 va) :
    atV (makeV p f) va k % szV k = va % szV k ∧ atV (makeV p f) va k / szV k = p % 17592186044416 * 4096 / szV k ∧ alignedV (makeV p f) k = decide (p % 17592186044416 * 4096 % szV k = 0) := by
  unfold B64 at hv
  unfold atV alignedV
  rw [make_page]
  rcases hk with rfl | rfl | rfl
  · rw [show knownV 0 = true from rfl, if_pos rfl, Bool.true_and, show szV 0 = 4096 from rfl]
    refine ⟨?_, ?_, rfl⟩ <;> omega
  · rw [show knownV 1 = true from rfl, if_pos rfl, Bool.true_and, show szV 1 = 2097152 from rfl]
    refine ⟨?_, ?_, rfl⟩ <;> omega
  · rw [show knownV 2 = true from rfl, if_pos rfl, Bool.true_and, show szV 2 = 1073741824 from rfl]
    refine ⟨?_, ?_, rfl⟩ <;> omega
theorem a38 (e : Int) (he : B64 e) : bits .and .u64 e 18446743798831644672 = e / 274877906944 * 274877906944 := by
  obtain ⟨x, rfl, hx⟩ := he.nat
  have h := and_nat x 18446743798831644672 hx (by omega)
  rw [show (18446743798831644672 : Int) = ((18446743798831644672 : Nat) : Int) from rfl, h]
  have e : x &&& 18446743798831644672 = x / 2 ^ 38 * 2 ^ 38 := Nat.eq_of_testBit_eq fun i => by
    rw [Nat.testBit_and, show (18446743798831644672 : Nat) = 2 ^ 64 - (274877906943 + 1) from rfl, Nat.testBit_two_pow_sub_succ (by omega), Nat.testBit_mul_two_pow, Nat.testBit_div_two_pow, show (274877906943 : Nat) = 2 ^ 38 - 1 from rfl, Nat.testBit_two_pow_sub_one]
    by_cases hi : i < 64
    · by_cases h38 : i < 38
      · simp [h38]; intro h; omega
      · simp only [hi, h38, decide_true, decide_false, Bool.not_false, Bool.and_true, show 38 ≤ i by omega, Bool.true_and]
        congr 1; omega
    · have h38 : i - 38 + 38 = i := by omega
      simp [high_off hx hi, h38]
  rw [e, show (2 : Nat) ^ 38 = 274877906944 from rfl]
  omega
theorem canon_high {va : Int} (hv : B64 va) : B64 (bits .or .u64 va 18446743798831644672) ∧ canonV (bits .or .u64 va 18446743798831644672) = true := by
  have h := and_or va 18446743798831644672 hv (by unfold B64; omega)
  unfold andV orV at h
  rw [a38 va hv] at h
  unfold B64 at hv
  have hd : bits .or .u64 va 18446743798831644672 = va % 274877906944 + 18446743798831644672 := by omega
  rw [hd]
  refine ⟨by unfold B64; omega, ?_⟩
  unfold canonV
  rw [show (va % 274877906944 + 18446743798831644672) / 274877906944 = 67108863 by omega]
  rfl
theorem canon_low {va : Int} (hv : B64 va) : B64 (va % 274877906944) ∧ canonV (va % 274877906944) = true := by
  unfold B64 at *
  refine ⟨by omega, ?_⟩
  unfold canonV
  rw [show va % 274877906944 / 274877906944 = 0 by omega]
  rfl
theorem xor_all (a : Int) (ha : B64 a) : bits .xor .u64 IntKind.u64.max a = 18446744073709551615 - a := by
  obtain ⟨x, rfl, hx⟩ := ha.nat
  have h := xorV_nat 18446744073709551615 x (by omega) hx
  unfold xorV at h
  rw [show IntKind.u64.max = ((18446744073709551615 : Nat) : Int) from rfl, h]
  have e : 18446744073709551615 ^^^ x = 18446744073709551615 - x := Nat.eq_of_testBit_eq fun i => by
    have k := Nat.testBit_two_pow_sub_succ (n := 64) (x := x) hx i
    rw [Nat.testBit_xor, show (18446744073709551615 : Nat) - x = 2 ^ 64 - (x + 1) by omega, k, show (18446744073709551615 : Nat) = 2 ^ 64 - 1 from rfl, Nat.testBit_two_pow_sub_one]
    by_cases hi : i < 64
    · simp [hi]
    · simp [hi, high_off hx hi]
  rw [e]
  omega
theorem canon_not {va : Int} (hv : B64 va) : canonV va = (decide (va / 274877906944 = 0) || decide ((18446744073709551615 - va) / 274877906944 = 0)) := by
  unfold B64 at hv
  unfold canonV
  congr 1
  refine decide_eq_decide.2 ?_
  omega
end Go.Proofs.Ytkfmcbhoendocaa.P
end
