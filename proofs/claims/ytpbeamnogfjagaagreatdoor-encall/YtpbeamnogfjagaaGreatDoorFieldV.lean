/-
  Plain mathematics of layer 3 (field): bits of a word, gathered into a number and scattered back; signs.
  Conditions: none; nothing here speaks of the program.
-/
import Derived.WalkKit
namespace Go.Proofs.YtpbeamnogfjagaaGreatDoor.F
open Go Go.RowKit
set_option linter.unusedVariables false

/-- The number that m bits of x are, from bit l on. -/
def get (x l m : Nat) : Nat := (x >>> l) % 2 ^ m
theorem get_bit (x l m i : Nat) : (get x l m).testBit i = (decide (i < m) && x.testBit (l + i)) := by
  simp [get, Nat.testBit_mod_two_pow, Nat.testBit_shiftRight]
theorem get_lt (x l m : Nat) : get x l m < 2 ^ m := Nat.mod_lt _ (Nat.two_pow_pos m)
theorem get_le (x l m : Nat) : get x l m ≤ x := by
  unfold get
  rw [Nat.shiftRight_eq_div_pow]
  exact Nat.le_trans (Nat.mod_le _ _) (Nat.div_le_self _ _)
/-- Get, at any numbers. -/
def gotV (x : Nat) (l m : Int) : Nat := if l < 0 ∨ m < 1 then 0 else get x l.toNat m.toNat
theorem gotV_le (x : Nat) (l m : Int) : gotV x l m ≤ x := by
  unfold gotV; split
  · omega
  · exact get_le _ _ _

abbrev Spans := List (Nat × Nat)
/-- Spans of x, one above the other, from bit 'at' on. -/
def gat (x : Nat) : Nat → Spans → Nat
  | _, [] => 0
  | k, (l, m) :: L => get x l m <<< k ||| gat x (k + m) L
/-- Where bit j of it stands in x. -/
def plOf : Nat → Spans → Nat → Option Nat
  | _, [], _ => none
  | k, (l, m) :: L, j => if k ≤ j ∧ j < k + m then some (l + (j - k)) else plOf (k + m) L j
def bitO (x : Nat) : Option Nat → Bool
  | none => false
  | some p => x.testBit p
theorem plOf_lt : ∀ (L : Spans) (k j : Nat), j < k → plOf k L j = none
  | [], _, _, _ => rfl
  | (l, m) :: L, k, j, h => by
    rw [plOf, if_neg (by omega)]
    exact plOf_lt L (k + m) j (by omega)
theorem gat_bit (x : Nat) : ∀ (L : Spans) (k j : Nat), (gat x k L).testBit j = bitO x (plOf k L j)
  | [], k, j => by simp [gat, plOf, bitO]
  | (l, m) :: L, k, j => by
    rw [gat, Nat.testBit_or, Nat.testBit_shiftLeft, get_bit, gat_bit x L (k + m) j, plOf]
    by_cases h : k ≤ j ∧ j < k + m
    · rw [if_pos h, plOf_lt L _ _ h.2]
      have h1 : j - k < m := by omega
      simp [bitO, h.1, h1]
    · rw [if_neg h]
      by_cases h1 : k ≤ j
      · have h2 : ¬ (j - k < m) := by omega
        simp [h1, h2]
      · simp [h1]
/-- How many bits. -/
def ends : Nat → Spans → Nat
  | k, [] => k
  | k, (_, m) :: L => ends (k + m) L
theorem ends_le : ∀ (L : Spans) (k : Nat), k ≤ ends k L
  | [], k => Nat.le_refl _
  | (l, m) :: L, k => Nat.le_trans (Nat.le_add_right k m) (ends_le L (k + m))
theorem plOf_ge : ∀ (L : Spans) (k j : Nat), ends k L ≤ j → plOf k L j = none
  | [], _, _, _ => rfl
  | (l, m) :: L, k, j, h => by
    have := ends_le L (k + m)
    rw [ends] at h
    rw [plOf, if_neg (by omega)]
    exact plOf_ge L (k + m) j h
theorem gat_lt (x : Nat) (L : Spans) (k : Nat) : gat x k L < 2 ^ ends k L := by
  apply Nat.lt_pow_two_of_testBit
  intro j hj
  rw [gat_bit, plOf_ge L k j hj]; rfl

/-- The bits of n, scattered to the spans. -/
def sca (n : Nat) : Nat → Spans → Nat
  | _, [] => 0
  | k, (l, m) :: L => get n k m <<< l ||| sca n (k + m) L
def inOf : Nat → Spans → Nat → List Nat
  | _, [], _ => []
  | k, (l, m) :: L, i => if l ≤ i ∧ i < l + m then (k + (i - l)) :: inOf (k + m) L i else inOf (k + m) L i
theorem sca_bit (n : Nat) : ∀ (L : Spans) (k i : Nat), (sca n k L).testBit i = (inOf k L i).any n.testBit
  | [], k, i => by simp [sca, inOf]
  | (l, m) :: L, k, i => by
    rw [sca, Nat.testBit_or, Nat.testBit_shiftLeft, get_bit, sca_bit n L (k + m) i, inOf]
    by_cases h : l ≤ i ∧ i < l + m
    · rw [if_pos h]
      have h1 : i - l < m := by omega
      simp [h.1, h1]
    · rw [if_neg h]
      by_cases h1 : l ≤ i
      · have h2 : ¬ (i - l < m) := by omega
        simp [h1, h2]
      · simp [h1]
/-- All spans lie within a word. -/
def Within (L : Spans) : Prop := ∀ p ∈ L, p.1 + p.2 ≤ 32
theorem sca_lt (n : Nat) (L : Spans) (h : Within L) (k : Nat) : sca n k L < 2 ^ 32 := by
  induction L generalizing k with
  | nil => simp [sca]
  | cons p L ih =>
    obtain ⟨l, m⟩ := p
    rw [sca]
    have h1 : l + m ≤ 32 := h (l, m) (by simp)
    have h2 : get n k m <<< l < 2 ^ 32 := by
      rw [Nat.shiftLeft_eq]
      have := get_lt n k m
      have h3 : get n k m * 2 ^ l < 2 ^ m * 2 ^ l := Nat.mul_lt_mul_of_pos_right this (Nat.two_pow_pos l)
      rw [← Nat.pow_add] at h3
      exact Nat.lt_of_lt_of_le h3 (Nat.pow_le_pow_right (by omega) (by omega))
    exact Nat.or_lt_two_pow h2 (ih (fun p hp => h p (by simp [hp])) _)

/-! ### The formats -/
/-- The zeros that a format's number begins with. -/
def zer (f : Int) : Nat := if f = 3 ∨ f = 5 then 1 else if f = 4 then 12 else 0
/-- The spans of a format. -/
def spn (f : Int) : Spans :=
  if f = 1 then [(20, 12)] else if f = 2 then [(7, 5), (25, 7)] else if f = 3 then [(8, 4), (25, 6), (7, 1), (31, 1)]
  else if f = 4 then [(12, 20)] else if f = 5 then [(21, 10), (20, 1), (12, 8), (31, 1)] else []
/-- A number of b bits, with its sign. -/
def sgn (b n : Nat) : Int := if n < 2 ^ (b - 1) then n else (n : Int) - 2 ^ b
/-- Imm. -/
def immV (x : Nat) (f : Int) : Int := sgn (ends (zer f) (spn f)) (gat x (zer f) (spn f))
/-- The low half of a number, as the program takes it. -/
def low (n : Int) : Nat := (n % 4294967296).toNat
/-- The word that a number is scattered to. -/
def wordV (n : Int) (f : Int) : Nat := sca (low n) (zer f) (spn f)
/-- Lay. -/
def layB (n : Int) (f : Int) : Bool := decide (spn f ≠ []) && decide (immV (wordV n f) f = n)
def layV (n : Int) (f : Int) : Nat := if layB n f = true then wordV n f else 0
end Go.Proofs.YtpbeamnogfjagaaGreatDoor.F
