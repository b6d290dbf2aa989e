/-
  Plain mathematics of layer 6 (enc): the instruction of a half is one that a word can say.
  Conditions: none; nothing here speaks of the program.
-/
import Derived.Test.YtpbeamnogfjagaaGreatDoorEncM1
import Derived.Test.YtpbeamnogfjagaaGreatDoorCompS
namespace Go.Proofs.YtpbeamnogfjagaaGreatDoor.D
open Go Go.RowKit F
set_option linter.unusedVariables false

abbrev Rg (r : Int) : Prop := 0 ≤ r ∧ r ≤ 31
theorem rg0 : Rg 0 := by decide
theorem rg2 : Rg 2 := by decide
theorem can_i {o rd rs1 im : Int} (ho : o = 4 ∨ (11 ≤ o ∧ o ≤ 17) ∨ (22 ≤ o ∧ o ≤ 27) ∨ o = 41) (h1 : Rg rd) (h2 : Rg rs1) (hi : -2048 ≤ im ∧ im < 2048) : D.Can o (rd, rs1, 0, im) := by
  refine ⟨by omega, h1, h2, rg0, ?_⟩
  simp only
  rcases ho with h | h | h | h
  · rw [lim3 _ _ _ _ _ (by omega)]; exact ⟨rfl, hi⟩
  · rw [lim5 _ _ _ _ _ h]; exact ⟨rfl, hi⟩
  · rw [lim7 _ _ _ _ _ h]; exact ⟨rfl, hi⟩
  · rw [lim10 _ _ _ _ _ (by omega)]; exact ⟨rfl, hi⟩
theorem can_sh {o rd rs1 im : Int} (ho : 28 ≤ o ∧ o ≤ 30) (h1 : Rg rd) (h2 : Rg rs1) (hi : 0 ≤ im ∧ im < 64) : D.Can o (rd, rs1, 0, im) := by
  refine ⟨by omega, h1, h2, rg0, ?_⟩
  simp only
  rw [lim8 _ _ _ _ _ ho]; exact ⟨rfl, hi⟩
theorem can_r {o rd rs1 rs2 : Int} (ho : (31 ≤ o ∧ o ≤ 40) ∨ (45 ≤ o ∧ o ≤ 62)) (h1 : Rg rd) (h2 : Rg rs1) (h3 : Rg rs2) : D.Can o (rd, rs1, rs2, 0) := by
  refine ⟨by omega, h1, h2, h3, ?_⟩
  simp only
  rcases ho with h | h
  · rw [lim9 _ _ _ _ _ h]
  · rw [lim12 _ _ _ _ _ h]
theorem can_s {o rs1 rs2 im : Int} (ho : 18 ≤ o ∧ o ≤ 21) (h1 : Rg rs1) (h2 : Rg rs2) (hi : -2048 ≤ im ∧ im < 2048) : D.Can o (0, rs1, rs2, im) := by
  refine ⟨by omega, rg0, h1, h2, ?_⟩
  simp only
  rw [lim6 _ _ _ _ _ ho]; exact ⟨rfl, hi⟩
theorem can_b {o rs1 rs2 im : Int} (ho : 5 ≤ o ∧ o ≤ 10) (h1 : Rg rs1) (h2 : Rg rs2) (hi : -4096 ≤ im ∧ im < 4096 ∧ im % 2 = 0) : D.Can o (0, rs1, rs2, im) := by
  refine ⟨by omega, rg0, h1, h2, ?_⟩
  simp only
  rw [lim4 _ _ _ _ _ ho]; exact ⟨rfl, hi⟩
theorem can_u {o rd im : Int} (ho : 1 ≤ o ∧ o ≤ 2) (h1 : Rg rd) (hi : -2147483648 ≤ im ∧ im < 2147483648 ∧ im % 4096 = 0) : D.Can o (rd, 0, 0, im) := by
  refine ⟨by omega, h1, rg0, rg0, ?_⟩
  simp only
  rw [lim1 _ _ _ _ _ ho]; exact ⟨rfl, rfl, hi⟩
theorem can_j {rd im : Int} (h1 : Rg rd) (hi : -1048576 ≤ im ∧ im < 1048576 ∧ im % 2 = 0) : D.Can 3 (rd, 0, 0, im) := by
  refine ⟨by omega, h1, rg0, rg0, ?_⟩
  simp only
  rw [lim2 _ _ _ _ _ (by omega)]; exact ⟨rfl, rfl, hi⟩
theorem can_66 : D.Can 66 bar := by
  refine ⟨by omega, rg0, rg0, rg0, ?_⟩
  rw [lim13 _ _ _ _ _ (by omega)]; exact ⟨rfl, rfl, rfl, rfl⟩
def Fine (p : Int × Parts) : Prop := p.1 = 0 ∨ D.Can p.1 p.2
theorem fine0 : Fine (0, bar) := Or.inl rfl
theorem regR (h : Nat) : Rg ((rR h : Nat) : Int) := by have := rR_le h; constructor <;> omega
theorem regS (h : Nat) : Rg ((rS h : Nat) : Int) := by have := rS_le h; constructor <;> omega
theorem rsR (h : Nat) : Rg ((sR h : Nat) : Int) := by have := sR_bd h; constructor <;> omega
theorem rsS (h : Nat) : Rg ((sS h : Nat) : Int) := by have := sS_bd h; constructor <;> omega
theorem fine_form (h q f : Nat) : Fine (form h q f) := by
  have b1 := wordAtV_bd h
  have b2 := doubleAtV_bd h
  have b3 := branchV_bd h
  have b4 := jumpV_bd h
  have b5 := stackToV_bd h
  have b6 := stackV_bd h
  have b7 := lwspV_bd h
  have b8 := ldspV_bd h
  have b9 := swspV_bd h
  have b10 := sdspV_bd h
  have b11 := shiftV_bd h
  have b12 := smallV_bd h
  have a5 := bit_le h 12
  unfold form
  by_cases q0 : q = 0
  · rw [if_pos q0]
    by_cases f0 : f = 0
    · rw [if_pos f0, vAddStackTo]
      split
      · exact fine0
      · exact Or.inr (can_i (by omega) (rsS h) rg2 (by omega))
    rw [if_neg f0]
    by_cases f2 : f = 2
    · rw [if_pos f2, vLoadWord]; exact Or.inr (can_i (by omega) (rsS h) (rsR h) (by omega))
    rw [if_neg f2]
    by_cases f3 : f = 3
    · rw [if_pos f3, vLoadDouble]; exact Or.inr (can_i (by omega) (rsS h) (rsR h) (by omega))
    rw [if_neg f3]
    by_cases f6 : f = 6
    · rw [if_pos f6, vStoreWord]; exact Or.inr (can_s (by omega) (rsR h) (rsS h) (by omega))
    rw [if_neg f6]
    by_cases f7 : f = 7
    · rw [if_pos f7, vStoreDouble]; exact Or.inr (can_s (by omega) (rsR h) (rsS h) (by omega))
    rw [if_neg f7]; exact fine0
  rw [if_neg q0]
  by_cases q1 : q = 1
  · rw [if_pos q1]
    by_cases f0 : f = 0
    · rw [if_pos f0, vAddSmall]; exact Or.inr (can_i (by omega) (regR h) (regR h) (by omega))
    rw [if_neg f0]
    by_cases f1 : f = 1
    · rw [if_pos f1, vAddSmall32]
      split
      · exact fine0
      · exact Or.inr (can_i (by omega) (regR h) (regR h) (by omega))
    rw [if_neg f1]
    by_cases f2 : f = 2
    · rw [if_pos f2, vSetSmall]; exact Or.inr (can_i (by omega) (regR h) rg0 (by omega))
    rw [if_neg f2]
    by_cases f3 : f = 3
    · rw [if_pos f3, vStackOrLui]
      split
      · split
        · exact fine0
        · exact Or.inr (can_i (by omega) rg2 rg2 (by omega))
      · split
        · exact fine0
        · exact Or.inr (can_u (by omega) (regR h) (by omega))
    rw [if_neg f3]
    by_cases f4 : f = 4
    · rw [if_pos f4, vArithmetic]
      split
      · exact Or.inr (can_sh (by omega) (rsR h) (rsR h) (by omega))
      split
      · exact Or.inr (can_sh (by omega) (rsR h) (rsR h) (by omega))
      split
      · exact Or.inr (can_i (by omega) (rsR h) (rsR h) (by omega))
      · have pb : pairV (get h 12 1) (get h 5 2) = 0 ∨ (31 ≤ pairV (get h 12 1) (get h 5 2) ∧ pairV (get h 12 1) (get h 5 2) ≤ 40) ∨ (45 ≤ pairV (get h 12 1) (get h 5 2) ∧ pairV (get h 12 1) (get h 5 2) ≤ 62) := by
          have hc := get_lt h 5 2
          revert hc a5
          generalize get h 12 1 = b
          generalize get h 5 2 = c
          intro a5 hc
          rcases (show b = 0 ∨ b = 1 by omega) with rfl | rfl <;> rcases (show c = 0 ∨ c = 1 ∨ c = 2 ∨ c = 3 by omega) with rfl | rfl | rfl | rfl <;> decide
        rcases pb with k | k
        · exact Or.inl k
        · exact Or.inr (can_r k (rsR h) (rsR h) (rsS h))
    rw [if_neg f4]
    by_cases f5 : f = 5
    · rw [if_pos f5, vJump]; exact Or.inr (can_j rg0 (by omega))
    rw [if_neg f5]
    by_cases f6 : f = 6
    · rw [if_pos f6, vBranchZero]; exact Or.inr (can_b (by omega) (rsR h) rg0 (by omega))
    rw [if_neg f6, vBranchOther]; exact Or.inr (can_b (by omega) (rsR h) rg0 (by omega))
  rw [if_neg q1]
  by_cases q2 : q = 2
  · rw [if_pos q2]
    by_cases f0 : f = 0
    · rw [if_pos f0, vShiftLeft]; exact Or.inr (can_sh (by omega) (regR h) (regR h) (by omega))
    rw [if_neg f0]
    by_cases f2 : f = 2
    · rw [if_pos f2, vLoadWordStack]
      split
      · exact fine0
      · exact Or.inr (can_i (by omega) (regR h) rg2 (by omega))
    rw [if_neg f2]
    by_cases f3 : f = 3
    · rw [if_pos f3, vLoadDoubleStack]
      split
      · exact fine0
      · exact Or.inr (can_i (by omega) (regR h) rg2 (by omega))
    rw [if_neg f3]
    by_cases f4 : f = 4
    · rw [if_pos f4, vRegisters]
      have r1 := rR_le h
      split
      · refine Or.inr (can_r (by omega) (regR h) ?_ (regS h))
        rcases (show get h 12 1 = 0 ∨ get h 12 1 = 1 by omega) with k | k
        · rw [k, Nat.mul_zero]; exact rg0
        · rw [k, Nat.mul_one]; exact regR h
      split
      · exact Or.inr (can_i (by omega) (by constructor <;> omega) (regR h) (by omega))
      split
      · exact Or.inr can_66
      · exact fine0
    rw [if_neg f4]
    by_cases f6 : f = 6
    · rw [if_pos f6, vStoreWordStack]; exact Or.inr (can_s (by omega) rg2 (regS h) (by omega))
    rw [if_neg f6]
    by_cases f7 : f = 7
    · rw [if_pos f7, vStoreDoubleStack]; exact Or.inr (can_s (by omega) rg2 (regS h) (by omega))
    rw [if_neg f7]; exact fine0
  rw [if_neg q2]; exact fine0
/-- The instruction of a half, but for its length, is one that a word can say. -/
theorem half_can (h : Nat) {o rd rs1 rs2 im : Int} (hH : halfV h = (o, rd, rs1, rs2, im)) (ho : o ≠ 0) : D.Can o (rd, rs1, rs2, im) := by
  unfold halfV at hH
  have hf := fine_form h (get h 0 2) (get h 13 3)
  by_cases h0 : (formV h).1 = 0
  · rw [if_pos h0] at hH
    injection hH with e _
    exact absurd e.symm ho
  · rw [if_neg h0] at hH
    rcases hf with hf | hf
    · exact absurd hf h0
    · unfold formV at hH; rw [hH] at hf; exact hf
end Go.Proofs.YtpbeamnogfjagaaGreatDoor.D
