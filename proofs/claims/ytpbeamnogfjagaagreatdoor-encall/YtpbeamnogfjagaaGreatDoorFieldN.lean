/-
  Plain mathematics of layer 3's statements, on: which numbers are laid, and what was laid is told.
  Conditions: the numbers are of their kinds; the format is one of the five.
-/
import Derived.Test.YtpbeamnogfjagaaGreatDoorFieldM
namespace Go.Proofs.YtpbeamnogfjagaaGreatDoor.F
open Go Go.RowKit W
set_option linter.unusedVariables false

/-- Where bit i of a word goes in the number. -/
def inv (f : Int) (i : Nat) : List Nat := inOf (zer f) (spn f) i
def tabOk (f : Int) : Bool :=
  ((List.range 32).all fun i => (inv f i).all fun j => plc f j == some i && decide (j < bts f)) &&
  ((List.range 64).all fun j => match plc f j with
    | none => decide (j < zer f) || decide (bts f ≤ j)
    | some p => decide (zer f ≤ j) && decide (j < bts f) && decide (p < 32) && decide (inv f p = [j]))
theorem tab_ok : tabOk 1 = true ∧ tabOk 2 = true ∧ tabOk 3 = true ∧ tabOk 4 = true ∧ tabOk 5 = true := by decide +kernel
theorem tab (f : Int) (h : 1 ≤ f ∧ f ≤ 5) : tabOk f = true :=
  five (P := fun f => tabOk f = true) f h tab_ok.1 tab_ok.2.1 tab_ok.2.2.1 tab_ok.2.2.2.1 tab_ok.2.2.2.2
theorem inv_plc (f : Int) (h : 1 ≤ f ∧ f ≤ 5) (i : Nat) (hi : i < 32) (j : Nat) (hj : j ∈ inv f i) : plc f j = some i ∧ j < bts f := by
  have H := tab f h
  rw [tabOk, Bool.and_eq_true] at H
  have := List.all_eq_true.1 (List.all_eq_true.1 H.1 i (by simpa using hi)) j hj
  simpa using this
theorem plc_inv (f : Int) (h : 1 ≤ f ∧ f ≤ 5) (j : Nat) : (plc f j = none ∧ (j < zer f ∨ bts f ≤ j)) ∨ ∃ p, plc f j = some p ∧ zer f ≤ j ∧ j < bts f ∧ p < 32 ∧ inv f p = [j] := by
  have H := tab f h
  have hb := bts_bd f h
  rw [tabOk, Bool.and_eq_true] at H
  by_cases hj : j < 64
  · have := List.all_eq_true.1 H.2 j (by simpa using hj)
    cases hp : plc f j with
    | none => rw [hp] at this; left; simpa using this
    | some p => rw [hp] at this; right; exact ⟨p, rfl, by simpa [and_assoc] using this⟩
  · left
    exact ⟨plOf_ge (spn f) (zer f) j (by have : bts f = ends (zer f) (spn f) := rfl; omega), Or.inr (by omega)⟩
theorem wordV_bit (n f : Int) (i : Nat) : (wordV n f).testBit i = (inv f i).any (low n).testBit := sca_bit (low n) (spn f) (zer f) i
/-- What was scattered is gathered. -/
theorem num_word (n f : Int) (h : 1 ≤ f ∧ f ≤ 5) : num (wordV n f) f = ((low n >>> zer f) % 2 ^ (bts f - zer f)) <<< zer f := by
  have hb := bts_bd f h
  apply Nat.eq_of_testBit_eq
  intro j
  rw [num_bit, Nat.testBit_shiftLeft, Nat.testBit_mod_two_pow, Nat.testBit_shiftRight]
  rcases plc_inv f h j with ⟨e, hj⟩ | ⟨p, e, h1, h2, h3, h4⟩
  · rw [e, bitO]
    rcases hj with hj | hj
    · have : ¬ zer f ≤ j := by omega
      simp [this]
    · have h2 : ¬ (j - zer f < bts f - zer f) := by omega
      rw [show decide (j - zer f < bts f - zer f) = false from decide_eq_false h2, Bool.false_and, Bool.and_false]
  · rw [e, bitO, wordV_bit, h4]
    have h5 : j - zer f < bts f - zer f := by omega
    have h6 : zer f + (j - zer f) = j := by omega
    rw [decide_eq_true h5, h6]
    simp [h1]
/-- The number, as whole numbers say it. -/
theorem num_wordI (n f : Int) (h : 1 ≤ f ∧ f ≤ 5) : ((num (wordV n f) f : Nat) : Int) = n % 2 ^ bts f / 2 ^ zer f * 2 ^ zer f := by
  rw [num_word n f h, Nat.shiftLeft_eq, Nat.shiftRight_eq_div_pow]
  have e : ∀ f : Int, 1 ≤ f ∧ f ≤ 5 → (((low n / 2 ^ zer f % 2 ^ (bts f - zer f) * 2 ^ zer f : Nat)) : Int) = n % 2 ^ bts f / 2 ^ zer f * 2 ^ zer f := by
    intro f h
    refine five (P := fun f => (((low n / 2 ^ zer f % 2 ^ (bts f - zer f) * 2 ^ zer f : Nat)) : Int) = n % 2 ^ bts f / 2 ^ zer f * 2 ^ zer f) f h ?_ ?_ ?_ ?_ ?_
    · rw [show zer 1 = 0 from rfl, bts_eq.1]; unfold low; omega
    · rw [show zer 2 = 0 from rfl, bts_eq.2.1]; unfold low; omega
    · rw [show zer 3 = 1 from rfl, bts_eq.2.2.1]; unfold low; omega
    · rw [show zer 4 = 12 from rfl, bts_eq.2.2.2.1]; unfold low; omega
    · rw [show zer 5 = 1 from rfl, bts_eq.2.2.2.2]; unfold low; omega
  exact e f h
theorem spn_ne (f : Int) (h : 1 ≤ f ∧ f ≤ 5) : spn f ≠ [] := five (P := fun f => spn f ≠ []) f h (by decide) (by decide) (by decide) (by decide) (by decide)
/-- Just the numbers of a format are laid. -/
theorem lay_iff (n f : Int) (h : 1 ≤ f ∧ f ≤ 5) : layB n f = decide (-(2 ^ (bts f - 1)) ≤ n ∧ n < 2 ^ (bts f - 1) ∧ n % 2 ^ zer f = 0) := by
  have hN := num_wordI n f h
  have hS := spn_ne f h
  rw [layB, decide_eq_true hS, Bool.true_and, immV_eq]
  congr 1
  unfold sgn
  generalize num (wordV n f) f = N at *
  clear hS
  revert hN
  refine five (P := fun f => ((N : Nat) : Int) = n % 2 ^ bts f / 2 ^ zer f * 2 ^ zer f → ((if N < 2 ^ (bts f - 1) then ((N : Nat) : Int) else (N : Int) - 2 ^ bts f) = n) = (-(2 ^ (bts f - 1)) ≤ n ∧ n < 2 ^ (bts f - 1) ∧ n % 2 ^ zer f = 0)) f h ?_ ?_ ?_ ?_ ?_
  · rw [show zer 1 = 0 from rfl, bts_eq.1]; intro hN; apply propext; split <;> omega
  · rw [show zer 2 = 0 from rfl, bts_eq.2.1]; intro hN; apply propext; split <;> omega
  · rw [show zer 3 = 1 from rfl, bts_eq.2.2.1]; intro hN; apply propext; split <;> omega
  · rw [show zer 4 = 12 from rfl, bts_eq.2.2.2.1]; intro hN; apply propext; split <;> omega
  · rw [show zer 5 = 1 from rfl, bts_eq.2.2.2.2]; intro hN; apply propext; split <;> omega
theorem num_step (x : Nat) (f : Int) (h : 1 ≤ f ∧ f ≤ 5) : num x f % 2 ^ zer f = 0 := by
  apply Nat.eq_of_testBit_eq
  intro j
  rw [Nat.testBit_mod_two_pow, Nat.zero_testBit, num_bit, plc]
  by_cases hj : j < zer f
  · rw [plOf_lt (spn f) (zer f) j hj]; simp [bitO]
  · simp [hj]
/-- Imm is a number of its format. -/
theorem imm_in (x : Nat) (f : Int) (h : 1 ≤ f ∧ f ≤ 5) : -(2 ^ (bts f - 1)) ≤ immV x f ∧ immV x f < 2 ^ (bts f - 1) ∧ immV x f % 2 ^ zer f = 0 := by
  have hL := num_lt x f
  have hN := num_step x f h
  rw [immV_eq]
  unfold sgn
  generalize num x f = N at *
  revert hL hN
  refine five (P := fun f => N < 2 ^ bts f → N % 2 ^ zer f = 0 → (-(2 ^ (bts f - 1)) ≤ (if N < 2 ^ (bts f - 1) then ((N : Nat) : Int) else (N : Int) - 2 ^ bts f) ∧ (if N < 2 ^ (bts f - 1) then ((N : Nat) : Int) else (N : Int) - 2 ^ bts f) < 2 ^ (bts f - 1) ∧ (if N < 2 ^ (bts f - 1) then ((N : Nat) : Int) else (N : Int) - 2 ^ bts f) % 2 ^ zer f = 0)) f h ?_ ?_ ?_ ?_ ?_
  · rw [show zer 1 = 0 from rfl, bts_eq.1]; intro hL hN; split <;> omega
  · rw [show zer 2 = 0 from rfl, bts_eq.2.1]; intro hL hN; split <;> omega
  · rw [show zer 3 = 1 from rfl, bts_eq.2.2.1]; intro hL hN; split <;> omega
  · rw [show zer 4 = 12 from rfl, bts_eq.2.2.2.1]; intro hL hN; split <;> omega
  · rw [show zer 5 = 1 from rfl, bts_eq.2.2.2.2]; intro hL hN; split <;> omega
theorem imm_lay (x : Nat) (f : Int) (h : 1 ≤ f ∧ f ≤ 5) : layB (immV x f) f = true := by
  rw [lay_iff _ f h]; exact decide_eq_true (imm_in x f h)
theorem lay_told (n f : Int) (h : layB n f = true) : immV (layV n f) f = n := by
  rw [layV, if_pos h]
  rw [layB, Bool.and_eq_true] at h
  exact of_decide_eq_true h.2
theorem layV_lt (n f : Int) : layV n f < 4294967296 := by
  unfold layV
  split
  · by_cases h : 1 ≤ f ∧ f ≤ 5
    · refine sca_lt (low n) (spn f) ?_ (zer f)
      exact five (P := fun f => Within (spn f)) f h (by unfold Within; decide) (by unfold Within; decide) (by unfold Within; decide) (by unfold Within; decide) (by unfold Within; decide)
    · have e : spn f = [] := by rw [spn, if_neg (by omega), if_neg (by omega), if_neg (by omega), if_neg (by omega), if_neg (by omega)]
      rw [wordV, e, sca]; omega
  · omega
/-- A word's number, laid, has no bit that the word has not. -/
theorem lay_sub (x : Nat) (f : Int) (h : 1 ≤ f ∧ f ≤ 5) (hx : x < 4294967296) : layV (immV x f) f &&& (4294967295 - x) = 0 := by
  have hb := bts_bd f h
  have hl : low (immV x f) = immU x f % 2 ^ 32 := by
    have e := imm_u64 x f h
    rw [IntKind.wrap_u64] at e
    unfold low
    rw [show (2 : Nat) ^ 32 = 4294967296 from rfl]
    omega
  rw [layV, if_pos (imm_lay x f h)]
  apply Nat.eq_of_testBit_eq
  intro i
  rw [Nat.testBit_and, Nat.zero_testBit, show 4294967295 - x = 2 ^ 32 - (x + 1) from by omega, Nat.testBit_two_pow_sub_succ (by exact hx)]
  by_cases hi : i < 32
  · rw [wordV_bit]
    cases hxi : x.testBit i with
    | true => simp
    | false =>
      have : (inv f i).any (low (immV x f)).testBit = false := by
        rw [List.any_eq_false]
        intro j hj
        obtain ⟨h1, h2⟩ := inv_plc f h i hi j hj
        rw [hl, Nat.testBit_mod_two_pow, immU_bit x f h, plcU, if_pos h2, h1, bitO, hxi]
        simp
      rw [this]; rfl
  · simp [hi]
end Go.Proofs.YtpbeamnogfjagaaGreatDoor.F
