/-
  Plain mathematics of layer 3's statements: the bits of a format's number, and of the word that it is laid as.
  Conditions: the numbers are of their kinds; the format is one of the five.
-/
import Derived.Test.YtpbeamnogfjagaaGreatDoorFieldB
namespace Go.Proofs.YtpbeamnogfjagaaGreatDoor.F
open Go Go.RowKit W
set_option linter.unusedVariables false

/-- The five formats, one by one. -/
theorem five {P : Int → Prop} (f : Int) (h : 1 ≤ f ∧ f ≤ 5) (h1 : P 1) (h2 : P 2) (h3 : P 3) (h4 : P 4) (h5 : P 5) : P f := by
  rcases (show f = 1 ∨ f = 2 ∨ f = 3 ∨ f = 4 ∨ f = 5 by omega) with rfl | rfl | rfl | rfl | rfl <;> assumption
/-- How many bits a format's number has. -/
def bts (f : Int) : Nat := ends (zer f) (spn f)
theorem bts_eq : bts 1 = 12 ∧ bts 2 = 12 ∧ bts 3 = 13 ∧ bts 4 = 32 ∧ bts 5 = 21 := by decide
theorem bts_bd (f : Int) (h : 1 ≤ f ∧ f ≤ 5) : 12 ≤ bts f ∧ bts f ≤ 32 ∧ zer f ≤ 12 ∧ zer f < bts f := by
  apply five (P := fun f => 12 ≤ bts f ∧ bts f ≤ 32 ∧ zer f ≤ 12 ∧ zer f < bts f) f h <;> decide
/-- The number, without its sign. -/
def num (x : Nat) (f : Int) : Nat := gat x (zer f) (spn f)
theorem num_lt (x : Nat) (f : Int) : num x f < 2 ^ bts f := gat_lt x (spn f) (zer f)
theorem immV_eq (x : Nat) (f : Int) : immV x f = sgn (bts f) (num x f) := rfl
/-- The bit of x that is bit j of the number. -/
def plc (f : Int) (j : Nat) : Option Nat := plOf (zer f) (spn f) j
theorem num_bit (x : Nat) (f : Int) (j : Nat) : (num x f).testBit j = bitO x (plc f j) := gat_bit x (spn f) (zer f) j
theorem plc_top (f : Int) (h : 1 ≤ f ∧ f ≤ 5) : plc f (bts f - 1) = some 31 := by
  apply five (P := fun f => plc f (bts f - 1) = some 31) f h <;> decide

/-- The bits of a number whose sign was extended. -/
theorem ext_bit (b n j : Nat) (hb : 1 ≤ b) (hb2 : b ≤ 63) (hn : n < 2 ^ b) : (ext b n).testBit j = if j < b then n.testBit j else (decide (j < 64) && n.testBit (b - 1)) := by
  have e : (2 : Nat) ^ b = 2 ^ (b - 1) + 2 ^ (b - 1) := by
    have := Nat.pow_succ (n := 2) (m := b - 1)
    rw [show (b - 1).succ = b from by omega] at this
    omega
  have hp := Nat.two_pow_pos (b - 1)
  by_cases h : n < 2 ^ (b - 1)
  · rw [ext, if_pos h]
    by_cases hj : j < b
    · rw [if_pos hj]
    · rw [if_neg hj, Nat.testBit_lt_two_pow h, Bool.and_false]
      exact Nat.testBit_lt_two_pow (Nat.lt_of_lt_of_le hn (Nat.pow_le_pow_right (by omega) (by omega)))
  · rw [ext, if_neg h]
    have h63 : (2 : Nat) ^ b ≤ 2 ^ 63 := Nat.pow_le_pow_right (by omega) hb2
    have e64 : (18446744073709551616 : Nat) = 2 ^ b * 2 ^ (64 - b) := by rw [← Nat.pow_add, show b + (64 - b) = 64 from by omega]
    have e1 : n + 18446744073709551616 - 2 ^ b = 2 ^ b * (2 ^ (64 - b) - 1) + n := by
      rw [Nat.mul_sub, ← e64, Nat.mul_one]
      rw [show (2 : Nat) ^ 63 = 9223372036854775808 from rfl] at h63
      omega
    rw [e1, Nat.testBit_two_pow_mul_add _ hn]
    by_cases hj : j < b
    · rw [if_pos hj, if_pos hj]
    · rw [if_neg hj, if_neg hj, Nat.testBit_two_pow_sub_one]
      have ht : n.testBit (b - 1) = true := by
        rw [Nat.testBit_eq_decide_div_mod_eq]
        have : n / 2 ^ (b - 1) = 1 := by
          apply Nat.div_eq_of_lt_le <;> omega
        rw [this]; rfl
      rw [ht, Bool.and_true]
      by_cases h6 : j < 64
      · simp [h6]; omega
      · simp [h6]; omega
theorem ext_lt (b n : Nat) (hb : b ≤ 63) (hn : n < 2 ^ b) : ext b n < 18446744073709551616 := by
  have h63 : (2 : Nat) ^ b ≤ 2 ^ 63 := Nat.pow_le_pow_right (by omega) hb
  rw [show (2 : Nat) ^ 63 = 9223372036854775808 from rfl] at h63
  unfold ext; split <;> omega
/-- Imm as 64 bits. -/
def immU (x : Nat) (f : Int) : Nat := ext (bts f) (num x f)
/-- The bit of x that is bit j of Imm, of 64 bits. -/
def plcU (f : Int) (j : Nat) : Option Nat := if j < bts f then plc f j else if j < 64 then some 31 else none
theorem immU_bit (x : Nat) (f : Int) (h : 1 ≤ f ∧ f ≤ 5) (j : Nat) : (immU x f).testBit j = bitO x (plcU f j) := by
  have hb := bts_bd f h
  rw [immU, ext_bit (bts f) _ j (by omega) (by omega) (num_lt x f), plcU, num_bit, num_bit, plc_top f h]
  by_cases hj : j < bts f
  · rw [if_pos hj, if_pos hj]
  · rw [if_neg hj, if_neg hj]
    by_cases h6 : j < 64
    · rw [if_pos h6]; simp [h6]
    · rw [if_neg h6]; simp [h6, bitO]
theorem imm_u64 (x : Nat) (f : Int) (h : 1 ≤ f ∧ f ≤ 5) : IntKind.u64.wrap (immV x f) = (immU x f : Nat) := by
  have hb := bts_bd f h
  rw [immV_eq]; exact u64_sgn _ _ (by omega) (num_lt x f)
theorem immU_lt (x : Nat) (f : Int) (h : 1 ≤ f ∧ f ≤ 5) : immU x f < 18446744073709551616 := by
  have hb := bts_bd f h
  exact ext_lt _ _ (by omega) (num_lt x f)

/-! ### One bit turned -/
/-- The bit of Imm that bit k of the word is, but for the sign's. -/
def invU (f : Int) (k : Nat) : Option Nat := (List.range 64).find? fun j => plcU f j == some k
theorem turn_bit (x k : Nat) (f : Int) (h : 1 ≤ f ∧ f ≤ 5) (j : Nat) :
    (immU x f ^^^ immU (x ^^^ 2 ^ k) f).testBit j = decide (plcU f j = some k) := by
  rw [Nat.testBit_xor, immU_bit x f h, immU_bit _ f h]
  cases hp : plcU f j with
  | none => simp [bitO]
  | some p =>
    simp only [bitO, Nat.testBit_xor, Nat.testBit_two_pow, Option.some.injEq]
    by_cases hk : k = p
    · subst hk; simp
    · have : ¬ p = k := fun e => hk e.symm
      simp [hk, this]
/-- Bits that a format does not have. -/
def outs (f : Int) (k : Nat) : Bool := decide (k < 7) || (decide (f = 1) || decide (f = 2) || decide (f = 3)) && decide (12 ≤ k) && decide (k < 20) || decide (f = 2) && decide (20 ≤ k) && decide (k < 25) || decide (f = 1) && decide (k < 20) || decide (f = 3) && decide (20 ≤ k) && decide (k < 25) || decide (3 < f) && decide (k < 12)
def turnOk (f : Int) : Bool := (List.range 32).all fun k => if outs f k then (List.range 64).all (fun j => plcU f j != some k) else if k == 31 then plcU f 63 == some 31 else match invU f k with
  | none => false
  | some i => (List.range 64).all fun j => decide (plcU f j = some k) == decide (i = j)
theorem turn_ok : turnOk 1 = true ∧ turnOk 2 = true ∧ turnOk 3 = true ∧ turnOk 4 = true ∧ turnOk 5 = true := by decide +kernel
theorem turn_okf (f : Int) (h : 1 ≤ f ∧ f ≤ 5) (k : Nat) (hk : k < 32) :
    (if outs f k then (List.range 64).all (fun j => plcU f j != some k) else if k == 31 then plcU f 63 == some 31 else match invU f k with
      | none => false
      | some i => (List.range 64).all fun j => decide (plcU f j = some k) == decide (i = j)) = true := by
  have hall : turnOk f = true := five (P := fun f => turnOk f = true) f h turn_ok.1 turn_ok.2.1 turn_ok.2.2.1 turn_ok.2.2.2.1 turn_ok.2.2.2.2
  exact List.all_eq_true.1 hall k (by simpa using hk)
theorem plcU_64 (f : Int) (h : 1 ≤ f ∧ f ≤ 5) (j : Nat) (hj : 64 ≤ j) : plcU f j = none := by
  have hb := bts_bd f h
  rw [plcU, if_neg (by omega), if_neg (by omega)]
theorem turn_out (x k : Nat) (f : Int) (h : 1 ≤ f ∧ f ≤ 5) (hk : k < 32) (ho : outs f k = true) : immU x f ^^^ immU (x ^^^ 2 ^ k) f = 0 := by
  have H := turn_okf f h k hk
  rw [if_pos ho] at H
  apply Nat.eq_of_testBit_eq
  intro j
  rw [turn_bit x k f h j, Nat.zero_testBit]
  by_cases hj : j < 64
  · have := List.all_eq_true.1 H j (by simpa using hj)
    simpa using this
  · rw [plcU_64 f h j (by omega)]; rfl
theorem turn_in (x k : Nat) (f : Int) (h : 1 ≤ f ∧ f ≤ 5) (hk : k < 32) (ho : outs f k = false) (h31 : k ≠ 31) : ∃ i, i < 64 ∧ immU x f ^^^ immU (x ^^^ 2 ^ k) f = 2 ^ i := by
  have H := turn_okf f h k hk
  rw [if_neg (by rw [ho]; decide), if_neg (by simpa using h31)] at H
  cases hi : invU f k with
  | none => rw [hi] at H; simp at H
  | some i =>
    rw [hi] at H
    have hi64 : i < 64 := by
      have := List.mem_of_find?_eq_some hi
      simpa using this
    refine ⟨i, hi64, ?_⟩
    apply Nat.eq_of_testBit_eq
    intro j
    rw [turn_bit x k f h j, Nat.testBit_two_pow]
    by_cases hj : j < 64
    · have := List.all_eq_true.1 H j (by simpa using hj)
      simpa using this
    · rw [plcU_64 f h j (by omega)]
      have : ¬ i = j := by omega
      simp [this]
theorem turn_31 (x : Nat) (f : Int) (h : 1 ≤ f ∧ f ≤ 5) : immU x f ^^^ immU (x ^^^ 2 ^ 31) f ≠ 0 ∧ immU x f / 2 ^ 63 ≠ immU (x ^^^ 2 ^ 31) f / 2 ^ 63 := by
  have hp : plcU f 63 = some 31 := by
    have hb := bts_bd f h
    rw [plcU, if_neg (by omega), if_pos (by omega)]
  have hb := turn_bit x 31 f h 63
  rw [hp] at hb
  constructor
  · intro e
    rw [e] at hb
    simp at hb
  · intro e
    rw [Nat.testBit_xor, Nat.testBit_eq_decide_div_mod_eq, Nat.testBit_eq_decide_div_mod_eq, e] at hb
    simp at hb
theorem pow_and (i : Nat) : 2 ^ i &&& (2 ^ i - 1) = 0 := by
  rw [Nat.and_two_pow_sub_one_eq_mod, Nat.mod_self]
theorem turn_one (x k : Nat) (f : Int) (h : 1 ≤ f ∧ f ≤ 5) (hk : k < 32) (ho : outs f k = false) (h31 : k ≠ 31) :
    immU x f ^^^ immU (x ^^^ 2 ^ k) f ≠ 0 ∧ (immU x f ^^^ immU (x ^^^ 2 ^ k) f) &&& ((immU x f ^^^ immU (x ^^^ 2 ^ k) f) - 1) = 0 := by
  obtain ⟨i, _, e⟩ := turn_in x k f h hk ho h31
  rw [e]
  exact ⟨Nat.ne_of_gt (Nat.two_pow_pos i), pow_and i⟩
end Go.Proofs.YtpbeamnogfjagaaGreatDoor.F
