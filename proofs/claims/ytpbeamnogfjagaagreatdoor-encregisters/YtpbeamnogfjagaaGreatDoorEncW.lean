/-
  Plain mathematics of layer 6 (enc): an instruction that a word can say, laid as a word, is that instruction; the instruction of any word is such a one, and its word is no greater.
  Conditions: none; nothing here speaks of the program.
-/
import Derived.Test.YtpbeamnogfjagaaGreatDoorEncV
namespace Go.Proofs.YtpbeamnogfjagaaGreatDoor.D
open Go Go.RowKit F
set_option linter.unusedVariables false

theorem get_or (a b l m : Nat) : get (a ||| b) l m = get a l m ||| get b l m := by
  apply Nat.eq_of_testBit_eq
  intro i
  simp only [get_bit, Nat.testBit_or]
  cases decide (i < m) <;> simp
theorem get_zero (l m : Nat) : get 0 l m = 0 := by simp [F.get]
theorem get_shl_at (a k m : Nat) (h : a < 2 ^ m) : get (a <<< k) k m = a := by
  rw [F.get, Nat.shiftLeft_shiftRight, Nat.mod_eq_of_lt h]
theorem get_shl_off (a k j l m : Nat) (h : a < 2 ^ j) (hd : k + j ≤ l ∨ l + m ≤ k) : get (a <<< k) l m = 0 := by
  apply Nat.eq_of_testBit_eq
  intro i
  rw [get_bit, Nat.testBit_shiftLeft, Nat.zero_testBit]
  by_cases hi : i < m
  · by_cases hk : k ≤ l + i
    · have : a.testBit (l + i - k) = false := Nat.testBit_lt_two_pow (Nat.lt_of_lt_of_le h (Nat.pow_le_pow_right (by omega) (by omega)))
      simp [this]
    · simp [show ¬ (l + i ≥ k) from hk]
  · simp [hi]
theorem get_shl_in (a k j l m : Nat) (hk : k ≤ l) (hl : l + m ≤ k + j) : get (a <<< k) l m = get a (l - k) m := by
  apply Nat.eq_of_testBit_eq
  intro i
  rw [get_bit, get_bit, Nat.testBit_shiftLeft]
  by_cases hi : i < m
  · simp [hi, show k ≤ l + i by omega, show l + i - k = l - k + i by omega]
  · simp [hi]
/-- Bits that a format does not have. -/
def offB (f : Int) (l m : Nat) : Bool := (List.range m).all fun i => (inv f (l + i)).isEmpty
theorem get_word_off (n f : Int) (l m : Nat) (hd : offB f l m = true) : get (F.wordV n f) l m = 0 := by
  apply Nat.eq_of_testBit_eq
  intro i
  rw [get_bit, Nat.zero_testBit, wordV_bit]
  by_cases hi : i < m
  · have := List.all_eq_true.1 hd i (by simp [hi])
    rw [List.isEmpty_iff] at this
    rw [this]; simp
  · simp [hi]
theorem get_lay_off (n f : Int) (l m : Nat) (hd : offB f l m = true) : get (layV n f) l m = 0 := by
  unfold layV
  split
  · exact get_word_off n f l m hd
  · exact get_zero l m

/-- Where two ranges of bits do not meet. -/
def apart (q : Nat × Nat × Nat) (k j : Nat) : Bool := decide (k + j ≤ q.1) || decide (q.1 + q.2.1 ≤ k)
theorem apart_or {q : Nat × Nat × Nat} {k j : Nat} (h : apart q k j = true) : k + j ≤ q.1 ∨ q.1 + q.2.1 ≤ k := by
  simpa [apart] using h
/-- All bits of an op lie apart from these. -/
def clear (o : Int) (k j : Nat) : Bool := (fldsOf o).all fun q => apart q k j
theorem bases_ok : ((List.range 98).all fun (n : Nat) => (fldsOf n).all fun q => get (baseV n) q.1 q.2.1 == q.2.2) = true := by decide +kernel
theorem base_has (o : Int) (ho : 0 ≤ o ∧ o ≤ 97) : Has (fldsOf o) (baseV o) := by
  intro q hq
  obtain ⟨n, rfl⟩ : ∃ n : Nat, o = n := ⟨o.toNat, by omega⟩
  have := List.all_eq_true.1 (List.all_eq_true.1 bases_ok n (by simp; omega)) q hq
  simpa using this
theorem bases_lt : ((List.range 98).all fun (n : Nat) => decide (baseV n < 4294967296)) = true := by decide +kernel
theorem base_lt (o : Int) : baseV o < 4294967296 := by
  by_cases ho : 0 ≤ o ∧ o ≤ 97
  · obtain ⟨n, rfl⟩ : ∃ n : Nat, o = n := ⟨o.toNat, by omega⟩
    exact of_decide_eq_true (List.all_eq_true.1 bases_lt n (by simp; omega))
  · by_cases h0 : o < 0
    · have : o.toNat = 0 := by omega
      simp [baseV, fldsOf, this, fldL, baseOf]
    · have : 98 ≤ o.toNat := by omega
      have e : fldsOf o = [] := by rw [fldsOf, List.getD_eq_getElem?_getD, List.getElem?_eq_none (by simpa [fldL] using this)]; rfl
      simp [baseV, e, baseOf]
/-- A word put together: of an op's bits, three registers, and the bits of a number. -/
def put (B a b c N : Nat) : Nat := B ||| a <<< 7 ||| b <<< 15 ||| c <<< 20 ||| N
theorem put_get (B a b c N l m : Nat) : get (put B a b c N) l m = get B l m ||| get (a <<< 7) l m ||| get (b <<< 15) l m ||| get (c <<< 20) l m ||| get N l m := by
  simp only [put, get_or]
theorem shl_lt {a k : Nat} (ha : a < 32) (hk : k ≤ 20) : a <<< k < 4294967296 := by
  rw [Nat.shiftLeft_eq]
  have h1 : a * 2 ^ k ≤ 31 * 2 ^ k := Nat.mul_le_mul_right _ (by omega)
  have h2 : (2 : Nat) ^ k ≤ 2 ^ 20 := Nat.pow_le_pow_right (by omega) hk
  omega
theorem or_lt32 {a b : Nat} (ha : a < 4294967296) (hb : b < 4294967296) : a ||| b < 4294967296 := Nat.or_lt_two_pow (n := 32) ha hb
theorem put_lt {B a b c N : Nat} (hB : B < 4294967296) (ha : a < 32) (hb : b < 32) (hc : c < 32) (hN : N < 4294967296) : put B a b c N < 4294967296 := by
  unfold put
  exact or_lt32 (or_lt32 (or_lt32 (or_lt32 hB (shl_lt ha (by omega))) (shl_lt hb (by omega))) (shl_lt hc (by omega))) hN
/-- A register's place is free of the op's bits, or there is none. -/
def Free (o : Int) (a k : Nat) : Prop := a < 32 ∧ (a = 0 ∨ clear o k 5 = true)
theorem Free.off {o : Int} {a k : Nat} (h : Free o a k) {q : Nat × Nat × Nat} (hq : q ∈ fldsOf o) : get (a <<< k) q.1 q.2.1 = 0 := by
  rcases h.2 with rfl | hc
  · simp [get_zero]
  · exact get_shl_off a k 5 _ _ h.1 (apart_or (List.all_eq_true.1 hc q hq))
theorem put_has (o : Int) (ho : 1 ≤ o ∧ o ≤ 97) {a b c N : Nat} (ha : Free o a 7) (hb : Free o b 15) (hc : Free o c 20) (hN : ∀ q ∈ fldsOf o, get N q.1 q.2.1 = 0) : Has (fldsOf o) (put (baseV o) a b c N) := by
  intro q hq
  rw [put_get, base_has o (by omega) q hq, ha.off hq, hb.off hq, hc.off hq, hN q hq]
  simp
theorem put_op (o : Int) (ho : 1 ≤ o ∧ o ≤ 97) {a b c N : Nat} (ha : Free o a 7) (hb : Free o b 15) (hc : Free o c 20) (hNl : N < 4294967296) (hN : ∀ q ∈ fldsOf o, get N q.1 q.2.1 = 0) :
    put (baseV o) a b c N < 4294967296 ∧ D.wordV (put (baseV o) a b c N) = (o, shape o (put (baseV o) a b c N)) := by
  have hl := put_lt (base_lt o) ha.1 hb.1 hc.1 hNl
  have h1 := (word_op _ hl o ho).2 (put_has o ho ha hb hc hN)
  refine ⟨hl, ?_⟩
  have h2 := (word_shape (put (baseV o) a b c N)).2.2
  rw [h1] at h2
  exact h2

/-! ### What an instruction can be -/
def lim (o rd rs1 rs2 im : Int) : Prop :=
  if o ≤ 0 then rd = 0 ∧ rs1 = 0 ∧ rs2 = 0 ∧ im = 0
  else if o ≤ 2 then rs1 = 0 ∧ rs2 = 0 ∧ -2147483648 ≤ im ∧ im < 2147483648 ∧ im % 4096 = 0
  else if o ≤ 3 then rs1 = 0 ∧ rs2 = 0 ∧ -1048576 ≤ im ∧ im < 1048576 ∧ im % 2 = 0
  else if o ≤ 4 then rs2 = 0 ∧ -2048 ≤ im ∧ im < 2048
  else if o ≤ 10 then rd = 0 ∧ -4096 ≤ im ∧ im < 4096 ∧ im % 2 = 0
  else if o ≤ 17 then rs2 = 0 ∧ -2048 ≤ im ∧ im < 2048
  else if o ≤ 21 then rd = 0 ∧ -2048 ≤ im ∧ im < 2048
  else if o ≤ 27 then rs2 = 0 ∧ -2048 ≤ im ∧ im < 2048
  else if o ≤ 30 then rs2 = 0 ∧ 0 ≤ im ∧ im < 64
  else if o ≤ 40 then im = 0
  else if o ≤ 41 then rs2 = 0 ∧ -2048 ≤ im ∧ im < 2048
  else if o ≤ 44 then rs2 = 0 ∧ 0 ≤ im ∧ im < 32
  else if o ≤ 62 then im = 0
  else if o ≤ 68 then rd = 0 ∧ rs1 = 0 ∧ rs2 = 0 ∧ im = 0
  else if o ≤ 69 then rd = 0 ∧ im = 0
  else if o ≤ 75 then rs2 = 0 ∧ 0 ≤ im ∧ im < 4096
  else if o ≤ 76 then rs2 = 0 ∧ im = 0
  else if o ≤ 86 then im = 0
  else if o ≤ 87 then rs2 = 0 ∧ im = 0
  else im = 0
/-- An instruction, of 4 bytes, that a word can say. -/
def Can (o : Int) (p : Parts) : Prop :=
  (0 ≤ o ∧ o ≤ 97) ∧ (0 ≤ p.1 ∧ p.1 ≤ 31) ∧ (0 ≤ p.2.1 ∧ p.2.1 ≤ 31) ∧ (0 ≤ p.2.2.1 ∧ p.2.2.1 ≤ 31) ∧ lim o p.1 p.2.1 p.2.2.1 p.2.2.2
theorem z31 : (0 : Int) ≤ 0 ∧ (0 : Int) ≤ 31 := by decide
theorem get5 (x l : Nat) : (0 : Int) ≤ ((get x l 5 : Nat) : Int) ∧ ((get x l 5 : Nat) : Int) ≤ 31 := by
  have := get_lt x l 5
  omega
theorem im1 (x : Nat) : -2048 ≤ immV x 1 ∧ immV x 1 < 2048 := by
  have h := imm_in x 1 (by omega)
  rw [bts_eq.1] at h; exact ⟨by have := h.1; omega, by have := h.2.1; omega⟩
theorem im2 (x : Nat) : -2048 ≤ immV x 2 ∧ immV x 2 < 2048 := by
  have h := imm_in x 2 (by omega)
  rw [bts_eq.2.1] at h; exact ⟨by have := h.1; omega, by have := h.2.1; omega⟩
theorem im3 (x : Nat) : -4096 ≤ immV x 3 ∧ immV x 3 < 4096 ∧ immV x 3 % 2 = 0 := by
  have h := imm_in x 3 (by omega)
  rw [bts_eq.2.2.1, show zer 3 = 1 from rfl] at h; exact ⟨by have := h.1; omega, by have := h.2.1; omega, by have := h.2.2; omega⟩
theorem im4 (x : Nat) : -2147483648 ≤ immV x 4 ∧ immV x 4 < 2147483648 ∧ immV x 4 % 4096 = 0 := by
  have h := imm_in x 4 (by omega)
  rw [bts_eq.2.2.2.1, show zer 4 = 12 from rfl] at h; exact ⟨by have := h.1; omega, by have := h.2.1; omega, by have := h.2.2; omega⟩
theorem im5 (x : Nat) : -1048576 ≤ immV x 5 ∧ immV x 5 < 1048576 ∧ immV x 5 % 2 = 0 := by
  have h := imm_in x 5 (by omega)
  rw [bts_eq.2.2.2.2, show zer 5 = 1 from rfl] at h; exact ⟨by have := h.1; omega, by have := h.2.1; omega, by have := h.2.2; omega⟩
theorem get6 (x l : Nat) : (0 : Int) ≤ ((get x l 6 : Nat) : Int) ∧ ((get x l 6 : Nat) : Int) < 64 := by
  have := get_lt x l 6
  omega
theorem get12 (x l : Nat) : (0 : Int) ≤ ((get x l 12 : Nat) : Int) ∧ ((get x l 12 : Nat) : Int) < 4096 := by
  have := get_lt x l 12
  omega
theorem get5' (x l : Nat) : (0 : Int) ≤ ((get x l 5 : Nat) : Int) ∧ ((get x l 5 : Nat) : Int) < 32 := by
  have := get_lt x l 5
  omega
theorem lim0 (o rd rs1 rs2 im : Int) (h : o ≤ 0) : lim o rd rs1 rs2 im = (rd = 0 ∧ rs1 = 0 ∧ rs2 = 0 ∧ im = 0) := by
  unfold lim; rw [if_pos (by omega)]
theorem lim1 (o rd rs1 rs2 im : Int) (h : 1 ≤ o ∧ o ≤ 2) : lim o rd rs1 rs2 im = (rs1 = 0 ∧ rs2 = 0 ∧ -2147483648 ≤ im ∧ im < 2147483648 ∧ im % 4096 = 0) := by
  unfold lim; rw [if_neg (by omega), if_pos (by omega)]
theorem lim2 (o rd rs1 rs2 im : Int) (h : 3 ≤ o ∧ o ≤ 3) : lim o rd rs1 rs2 im = (rs1 = 0 ∧ rs2 = 0 ∧ -1048576 ≤ im ∧ im < 1048576 ∧ im % 2 = 0) := by
  unfold lim; rw [if_neg (by omega), if_neg (by omega), if_pos (by omega)]
theorem lim3 (o rd rs1 rs2 im : Int) (h : 4 ≤ o ∧ o ≤ 4) : lim o rd rs1 rs2 im = (rs2 = 0 ∧ -2048 ≤ im ∧ im < 2048) := by
  unfold lim; rw [if_neg (by omega), if_neg (by omega), if_neg (by omega), if_pos (by omega)]
theorem lim4 (o rd rs1 rs2 im : Int) (h : 5 ≤ o ∧ o ≤ 10) : lim o rd rs1 rs2 im = (rd = 0 ∧ -4096 ≤ im ∧ im < 4096 ∧ im % 2 = 0) := by
  unfold lim; rw [if_neg (by omega), if_neg (by omega), if_neg (by omega), if_neg (by omega), if_pos (by omega)]
theorem lim5 (o rd rs1 rs2 im : Int) (h : 11 ≤ o ∧ o ≤ 17) : lim o rd rs1 rs2 im = (rs2 = 0 ∧ -2048 ≤ im ∧ im < 2048) := by
  unfold lim; rw [if_neg (by omega), if_neg (by omega), if_neg (by omega), if_neg (by omega), if_neg (by omega), if_pos (by omega)]
theorem lim6 (o rd rs1 rs2 im : Int) (h : 18 ≤ o ∧ o ≤ 21) : lim o rd rs1 rs2 im = (rd = 0 ∧ -2048 ≤ im ∧ im < 2048) := by
  unfold lim; rw [if_neg (by omega), if_neg (by omega), if_neg (by omega), if_neg (by omega), if_neg (by omega), if_neg (by omega), if_pos (by omega)]
theorem lim7 (o rd rs1 rs2 im : Int) (h : 22 ≤ o ∧ o ≤ 27) : lim o rd rs1 rs2 im = (rs2 = 0 ∧ -2048 ≤ im ∧ im < 2048) := by
  unfold lim; rw [if_neg (by omega), if_neg (by omega), if_neg (by omega), if_neg (by omega), if_neg (by omega), if_neg (by omega), if_neg (by omega), if_pos (by omega)]
theorem lim8 (o rd rs1 rs2 im : Int) (h : 28 ≤ o ∧ o ≤ 30) : lim o rd rs1 rs2 im = (rs2 = 0 ∧ 0 ≤ im ∧ im < 64) := by
  unfold lim; rw [if_neg (by omega), if_neg (by omega), if_neg (by omega), if_neg (by omega), if_neg (by omega), if_neg (by omega), if_neg (by omega), if_neg (by omega), if_pos (by omega)]
theorem lim9 (o rd rs1 rs2 im : Int) (h : 31 ≤ o ∧ o ≤ 40) : lim o rd rs1 rs2 im = (im = 0) := by
  unfold lim; rw [if_neg (by omega), if_neg (by omega), if_neg (by omega), if_neg (by omega), if_neg (by omega), if_neg (by omega), if_neg (by omega), if_neg (by omega), if_neg (by omega), if_pos (by omega)]
theorem lim10 (o rd rs1 rs2 im : Int) (h : 41 ≤ o ∧ o ≤ 41) : lim o rd rs1 rs2 im = (rs2 = 0 ∧ -2048 ≤ im ∧ im < 2048) := by
  unfold lim; rw [if_neg (by omega), if_neg (by omega), if_neg (by omega), if_neg (by omega), if_neg (by omega), if_neg (by omega), if_neg (by omega), if_neg (by omega), if_neg (by omega), if_neg (by omega), if_pos (by omega)]
theorem lim11 (o rd rs1 rs2 im : Int) (h : 42 ≤ o ∧ o ≤ 44) : lim o rd rs1 rs2 im = (rs2 = 0 ∧ 0 ≤ im ∧ im < 32) := by
  unfold lim; rw [if_neg (by omega), if_neg (by omega), if_neg (by omega), if_neg (by omega), if_neg (by omega), if_neg (by omega), if_neg (by omega), if_neg (by omega), if_neg (by omega), if_neg (by omega), if_neg (by omega), if_pos (by omega)]
theorem lim12 (o rd rs1 rs2 im : Int) (h : 45 ≤ o ∧ o ≤ 62) : lim o rd rs1 rs2 im = (im = 0) := by
  unfold lim; rw [if_neg (by omega), if_neg (by omega), if_neg (by omega), if_neg (by omega), if_neg (by omega), if_neg (by omega), if_neg (by omega), if_neg (by omega), if_neg (by omega), if_neg (by omega), if_neg (by omega), if_neg (by omega), if_pos (by omega)]
theorem lim13 (o rd rs1 rs2 im : Int) (h : 63 ≤ o ∧ o ≤ 68) : lim o rd rs1 rs2 im = (rd = 0 ∧ rs1 = 0 ∧ rs2 = 0 ∧ im = 0) := by
  unfold lim; rw [if_neg (by omega), if_neg (by omega), if_neg (by omega), if_neg (by omega), if_neg (by omega), if_neg (by omega), if_neg (by omega), if_neg (by omega), if_neg (by omega), if_neg (by omega), if_neg (by omega), if_neg (by omega), if_neg (by omega), if_pos (by omega)]
theorem lim14 (o rd rs1 rs2 im : Int) (h : 69 ≤ o ∧ o ≤ 69) : lim o rd rs1 rs2 im = (rd = 0 ∧ im = 0) := by
  unfold lim; rw [if_neg (by omega), if_neg (by omega), if_neg (by omega), if_neg (by omega), if_neg (by omega), if_neg (by omega), if_neg (by omega), if_neg (by omega), if_neg (by omega), if_neg (by omega), if_neg (by omega), if_neg (by omega), if_neg (by omega), if_neg (by omega), if_pos (by omega)]
theorem lim15 (o rd rs1 rs2 im : Int) (h : 70 ≤ o ∧ o ≤ 75) : lim o rd rs1 rs2 im = (rs2 = 0 ∧ 0 ≤ im ∧ im < 4096) := by
  unfold lim; rw [if_neg (by omega), if_neg (by omega), if_neg (by omega), if_neg (by omega), if_neg (by omega), if_neg (by omega), if_neg (by omega), if_neg (by omega), if_neg (by omega), if_neg (by omega), if_neg (by omega), if_neg (by omega), if_neg (by omega), if_neg (by omega), if_neg (by omega), if_pos (by omega)]
theorem lim16 (o rd rs1 rs2 im : Int) (h : 76 ≤ o ∧ o ≤ 76) : lim o rd rs1 rs2 im = (rs2 = 0 ∧ im = 0) := by
  unfold lim; rw [if_neg (by omega), if_neg (by omega), if_neg (by omega), if_neg (by omega), if_neg (by omega), if_neg (by omega), if_neg (by omega), if_neg (by omega), if_neg (by omega), if_neg (by omega), if_neg (by omega), if_neg (by omega), if_neg (by omega), if_neg (by omega), if_neg (by omega), if_neg (by omega), if_pos (by omega)]
theorem lim17 (o rd rs1 rs2 im : Int) (h : 77 ≤ o ∧ o ≤ 86) : lim o rd rs1 rs2 im = (im = 0) := by
  unfold lim; rw [if_neg (by omega), if_neg (by omega), if_neg (by omega), if_neg (by omega), if_neg (by omega), if_neg (by omega), if_neg (by omega), if_neg (by omega), if_neg (by omega), if_neg (by omega), if_neg (by omega), if_neg (by omega), if_neg (by omega), if_neg (by omega), if_neg (by omega), if_neg (by omega), if_neg (by omega), if_pos (by omega)]
theorem lim18 (o rd rs1 rs2 im : Int) (h : 87 ≤ o ∧ o ≤ 87) : lim o rd rs1 rs2 im = (rs2 = 0 ∧ im = 0) := by
  unfold lim; rw [if_neg (by omega), if_neg (by omega), if_neg (by omega), if_neg (by omega), if_neg (by omega), if_neg (by omega), if_neg (by omega), if_neg (by omega), if_neg (by omega), if_neg (by omega), if_neg (by omega), if_neg (by omega), if_neg (by omega), if_neg (by omega), if_neg (by omega), if_neg (by omega), if_neg (by omega), if_neg (by omega), if_pos (by omega)]
theorem lim19 (o rd rs1 rs2 im : Int) (h : 88 ≤ o) : lim o rd rs1 rs2 im = (im = 0) := by
  unfold lim; rw [if_neg (by omega), if_neg (by omega), if_neg (by omega), if_neg (by omega), if_neg (by omega), if_neg (by omega), if_neg (by omega), if_neg (by omega), if_neg (by omega), if_neg (by omega), if_neg (by omega), if_neg (by omega), if_neg (by omega), if_neg (by omega), if_neg (by omega), if_neg (by omega), if_neg (by omega), if_neg (by omega), if_neg (by omega)]
/-- The instruction of any word is one that a word can say. -/
theorem shape_can (o : Int) (x : Nat) (ho : 0 ≤ o ∧ o ≤ 97) : Can o (shape o x) := by
  rcases (show o ≤ 0 ∨ (1 ≤ o ∧ o ≤ 2) ∨ (3 ≤ o ∧ o ≤ 3) ∨ (4 ≤ o ∧ o ≤ 4) ∨ (5 ≤ o ∧ o ≤ 10) ∨ (11 ≤ o ∧ o ≤ 17) ∨ (18 ≤ o ∧ o ≤ 21) ∨ (22 ≤ o ∧ o ≤ 27) ∨ (28 ≤ o ∧ o ≤ 30) ∨ (31 ≤ o ∧ o ≤ 40) ∨ (41 ≤ o ∧ o ≤ 41) ∨ (42 ≤ o ∧ o ≤ 44) ∨ (45 ≤ o ∧ o ≤ 62) ∨ (63 ≤ o ∧ o ≤ 68) ∨ (69 ≤ o ∧ o ≤ 69) ∨ (70 ≤ o ∧ o ≤ 75) ∨ (76 ≤ o ∧ o ≤ 76) ∨ (77 ≤ o ∧ o ≤ 86) ∨ (87 ≤ o ∧ o ≤ 87) ∨ 88 ≤ o by omega) with h | h | h | h | h | h | h | h | h | h | h | h | h | h | h | h | h | h | h | h
  · rw [shape0 o x h]
    refine ⟨ho, z31, z31, z31, ?_⟩
    rw [lim0 _ _ _ _ _ h]; exact ⟨rfl, rfl, rfl, rfl⟩
  · rw [shape1 o x h]
    refine ⟨ho, get5 x 7, z31, z31, ?_⟩
    rw [lim1 _ _ _ _ _ h]; exact ⟨rfl, rfl, im4 x⟩
  · rw [shape2 o x h]
    refine ⟨ho, get5 x 7, z31, z31, ?_⟩
    rw [lim2 _ _ _ _ _ h]; exact ⟨rfl, rfl, im5 x⟩
  · rw [shape3 o x h]
    refine ⟨ho, get5 x 7, get5 x 15, z31, ?_⟩
    rw [lim3 _ _ _ _ _ h]; exact ⟨rfl, im1 x⟩
  · rw [shape4 o x h]
    refine ⟨ho, z31, get5 x 15, get5 x 20, ?_⟩
    rw [lim4 _ _ _ _ _ h]; exact ⟨rfl, im3 x⟩
  · rw [shape5 o x h]
    refine ⟨ho, get5 x 7, get5 x 15, z31, ?_⟩
    rw [lim5 _ _ _ _ _ h]; exact ⟨rfl, im1 x⟩
  · rw [shape6 o x h]
    refine ⟨ho, z31, get5 x 15, get5 x 20, ?_⟩
    rw [lim6 _ _ _ _ _ h]; exact ⟨rfl, im2 x⟩
  · rw [shape7 o x h]
    refine ⟨ho, get5 x 7, get5 x 15, z31, ?_⟩
    rw [lim7 _ _ _ _ _ h]; exact ⟨rfl, im1 x⟩
  · rw [shape8 o x h]
    refine ⟨ho, get5 x 7, get5 x 15, z31, ?_⟩
    rw [lim8 _ _ _ _ _ h]; exact ⟨rfl, get6 x 20⟩
  · rw [shape9 o x h]
    refine ⟨ho, get5 x 7, get5 x 15, get5 x 20, ?_⟩
    rw [lim9 _ _ _ _ _ h]; exact rfl
  · rw [shape10 o x h]
    refine ⟨ho, get5 x 7, get5 x 15, z31, ?_⟩
    rw [lim10 _ _ _ _ _ h]; exact ⟨rfl, im1 x⟩
  · rw [shape11 o x h]
    refine ⟨ho, get5 x 7, get5 x 15, z31, ?_⟩
    rw [lim11 _ _ _ _ _ h]; exact ⟨rfl, get5' x 20⟩
  · rw [shape12 o x h]
    refine ⟨ho, get5 x 7, get5 x 15, get5 x 20, ?_⟩
    rw [lim12 _ _ _ _ _ h]; exact rfl
  · rw [shape13 o x h]
    refine ⟨ho, z31, z31, z31, ?_⟩
    rw [lim13 _ _ _ _ _ h]; exact ⟨rfl, rfl, rfl, rfl⟩
  · rw [shape14 o x h]
    refine ⟨ho, z31, get5 x 15, get5 x 20, ?_⟩
    rw [lim14 _ _ _ _ _ h]; exact ⟨rfl, rfl⟩
  · rw [shape15 o x h]
    refine ⟨ho, get5 x 7, get5 x 15, z31, ?_⟩
    rw [lim15 _ _ _ _ _ h]; exact ⟨rfl, get12 x 20⟩
  · rw [shape16 o x h]
    refine ⟨ho, get5 x 7, get5 x 15, z31, ?_⟩
    rw [lim16 _ _ _ _ _ h]; exact ⟨rfl, rfl⟩
  · rw [shape17 o x h]
    refine ⟨ho, get5 x 7, get5 x 15, get5 x 20, ?_⟩
    rw [lim17 _ _ _ _ _ h]; exact rfl
  · rw [shape18 o x h]
    refine ⟨ho, get5 x 7, get5 x 15, z31, ?_⟩
    rw [lim18 _ _ _ _ _ h]; exact ⟨rfl, rfl⟩
  · rw [shape19 o x h]
    refine ⟨ho, get5 x 7, get5 x 15, get5 x 20, ?_⟩
    rw [lim19 _ _ _ _ _ h]; exact rfl
theorem word_can (x : Nat) : Can (D.wordV x).1 (D.wordV x).2 := by
  obtain ⟨h1, h2, h3⟩ := word_shape x
  have h4 := shape_can (D.wordV x).1 x ⟨h1, h2⟩
  rw [h3]; exact h4
end Go.Proofs.YtpbeamnogfjagaaGreatDoor.D
