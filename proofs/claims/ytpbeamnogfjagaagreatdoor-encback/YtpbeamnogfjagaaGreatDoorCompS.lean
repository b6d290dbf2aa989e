/-
  Plain mathematics of layer 5: bounds of each number, and what kinds of instructions a half can be.
  Conditions: none; nothing here speaks of the program.
-/
import Derived.Test.YtpbeamnogfjagaaGreatDoorCompV
namespace Go.Proofs.YtpbeamnogfjagaaGreatDoor.D
open Go Go.RowKit F
set_option linter.unusedVariables false

theorem wordAtV_bd (h : Nat) : 0 ≤ wordAtV h ∧ wordAtV h < 128 ∧ wordAtV h % 4 = 0 := by
  have b5 := bit_le h 5
  have b6 := bit_le h 6
  have b10 := bit_le h 10
  have b11 := bit_le h 11
  have b12 := bit_le h 12
  simp only [wordAtV, numV, num]
  generalize get h 5 1 = x5 at *
  generalize get h 6 1 = x6 at *
  generalize get h 10 1 = x10 at *
  generalize get h 11 1 = x11 at *
  generalize get h 12 1 = x12 at *
  simp
  omega
theorem doubleAtV_bd (h : Nat) : 0 ≤ doubleAtV h ∧ doubleAtV h < 256 ∧ doubleAtV h % 8 = 0 := by
  have b5 := bit_le h 5
  have b6 := bit_le h 6
  have b10 := bit_le h 10
  have b11 := bit_le h 11
  have b12 := bit_le h 12
  simp only [doubleAtV, numV, num]
  generalize get h 5 1 = x5 at *
  generalize get h 6 1 = x6 at *
  generalize get h 10 1 = x10 at *
  generalize get h 11 1 = x11 at *
  generalize get h 12 1 = x12 at *
  simp
  omega
theorem branchV_bd (h : Nat) : -256 ≤ branchV h ∧ branchV h < 256 ∧ branchV h % 2 = 0 := by
  have b2 := bit_le h 2
  have b3 := bit_le h 3
  have b4 := bit_le h 4
  have b5 := bit_le h 5
  have b6 := bit_le h 6
  have b10 := bit_le h 10
  have b11 := bit_le h 11
  have b12 := bit_le h 12
  simp only [branchV, sgd, numV, num, List.length_cons, List.length_nil]
  generalize get h 2 1 = x2 at *
  generalize get h 3 1 = x3 at *
  generalize get h 4 1 = x4 at *
  generalize get h 5 1 = x5 at *
  generalize get h 6 1 = x6 at *
  generalize get h 10 1 = x10 at *
  generalize get h 11 1 = x11 at *
  generalize get h 12 1 = x12 at *
  simp
  omega
theorem jumpV_bd (h : Nat) : -2048 ≤ jumpV h ∧ jumpV h < 2048 ∧ jumpV h % 2 = 0 := by
  have b2 := bit_le h 2
  have b3 := bit_le h 3
  have b4 := bit_le h 4
  have b5 := bit_le h 5
  have b6 := bit_le h 6
  have b7 := bit_le h 7
  have b8 := bit_le h 8
  have b9 := bit_le h 9
  have b10 := bit_le h 10
  have b11 := bit_le h 11
  have b12 := bit_le h 12
  simp only [jumpV, sgd, numV, num, List.length_cons, List.length_nil]
  generalize get h 2 1 = x2 at *
  generalize get h 3 1 = x3 at *
  generalize get h 4 1 = x4 at *
  generalize get h 5 1 = x5 at *
  generalize get h 6 1 = x6 at *
  generalize get h 7 1 = x7 at *
  generalize get h 8 1 = x8 at *
  generalize get h 9 1 = x9 at *
  generalize get h 10 1 = x10 at *
  generalize get h 11 1 = x11 at *
  generalize get h 12 1 = x12 at *
  simp
  omega
theorem stackToV_bd (h : Nat) : 0 ≤ stackToV h ∧ stackToV h < 1024 ∧ stackToV h % 4 = 0 := by
  have b5 := bit_le h 5
  have b6 := bit_le h 6
  have b7 := bit_le h 7
  have b8 := bit_le h 8
  have b9 := bit_le h 9
  have b10 := bit_le h 10
  have b11 := bit_le h 11
  have b12 := bit_le h 12
  simp only [stackToV, numV, num]
  generalize get h 5 1 = x5 at *
  generalize get h 6 1 = x6 at *
  generalize get h 7 1 = x7 at *
  generalize get h 8 1 = x8 at *
  generalize get h 9 1 = x9 at *
  generalize get h 10 1 = x10 at *
  generalize get h 11 1 = x11 at *
  generalize get h 12 1 = x12 at *
  simp
  omega
theorem stackV_bd (h : Nat) : -512 ≤ stackV h ∧ stackV h < 512 ∧ stackV h % 16 = 0 := by
  have b2 := bit_le h 2
  have b3 := bit_le h 3
  have b4 := bit_le h 4
  have b5 := bit_le h 5
  have b6 := bit_le h 6
  have b12 := bit_le h 12
  simp only [stackV, sgd, numV, num, List.length_cons, List.length_nil]
  generalize get h 2 1 = x2 at *
  generalize get h 3 1 = x3 at *
  generalize get h 4 1 = x4 at *
  generalize get h 5 1 = x5 at *
  generalize get h 6 1 = x6 at *
  generalize get h 12 1 = x12 at *
  simp
  omega
theorem lwspV_bd (h : Nat) : 0 ≤ lwspV h ∧ lwspV h < 256 ∧ lwspV h % 4 = 0 := by
  have b2 := bit_le h 2
  have b3 := bit_le h 3
  have b4 := bit_le h 4
  have b5 := bit_le h 5
  have b6 := bit_le h 6
  have b12 := bit_le h 12
  simp only [lwspV, numV, num]
  generalize get h 2 1 = x2 at *
  generalize get h 3 1 = x3 at *
  generalize get h 4 1 = x4 at *
  generalize get h 5 1 = x5 at *
  generalize get h 6 1 = x6 at *
  generalize get h 12 1 = x12 at *
  simp
  omega
theorem ldspV_bd (h : Nat) : 0 ≤ ldspV h ∧ ldspV h < 512 ∧ ldspV h % 8 = 0 := by
  have b2 := bit_le h 2
  have b3 := bit_le h 3
  have b4 := bit_le h 4
  have b5 := bit_le h 5
  have b6 := bit_le h 6
  have b12 := bit_le h 12
  simp only [ldspV, numV, num]
  generalize get h 2 1 = x2 at *
  generalize get h 3 1 = x3 at *
  generalize get h 4 1 = x4 at *
  generalize get h 5 1 = x5 at *
  generalize get h 6 1 = x6 at *
  generalize get h 12 1 = x12 at *
  simp
  omega
theorem swspV_bd (h : Nat) : 0 ≤ swspV h ∧ swspV h < 256 ∧ swspV h % 4 = 0 := by
  have b7 := bit_le h 7
  have b8 := bit_le h 8
  have b9 := bit_le h 9
  have b10 := bit_le h 10
  have b11 := bit_le h 11
  have b12 := bit_le h 12
  simp only [swspV, numV, num]
  generalize get h 7 1 = x7 at *
  generalize get h 8 1 = x8 at *
  generalize get h 9 1 = x9 at *
  generalize get h 10 1 = x10 at *
  generalize get h 11 1 = x11 at *
  generalize get h 12 1 = x12 at *
  simp
  omega
theorem sdspV_bd (h : Nat) : 0 ≤ sdspV h ∧ sdspV h < 512 ∧ sdspV h % 8 = 0 := by
  have b7 := bit_le h 7
  have b8 := bit_le h 8
  have b9 := bit_le h 9
  have b10 := bit_le h 10
  have b11 := bit_le h 11
  have b12 := bit_le h 12
  simp only [sdspV, numV, num]
  generalize get h 7 1 = x7 at *
  generalize get h 8 1 = x8 at *
  generalize get h 9 1 = x9 at *
  generalize get h 10 1 = x10 at *
  generalize get h 11 1 = x11 at *
  generalize get h 12 1 = x12 at *
  simp
  omega
theorem shiftV_bd (h : Nat) : 0 ≤ shiftV h ∧ shiftV h < 64 ∧ shiftV h % 1 = 0 := by
  have b2 := bit_le h 2
  have b3 := bit_le h 3
  have b4 := bit_le h 4
  have b5 := bit_le h 5
  have b6 := bit_le h 6
  have b12 := bit_le h 12
  simp only [shiftV, numV, num]
  generalize get h 2 1 = x2 at *
  generalize get h 3 1 = x3 at *
  generalize get h 4 1 = x4 at *
  generalize get h 5 1 = x5 at *
  generalize get h 6 1 = x6 at *
  generalize get h 12 1 = x12 at *
  simp
  omega
theorem smallV_bd (h : Nat) : -32 ≤ smallV h ∧ smallV h < 32 ∧ smallV h % 1 = 0 := by
  have b2 := bit_le h 2
  have b3 := bit_le h 3
  have b4 := bit_le h 4
  have b5 := bit_le h 5
  have b6 := bit_le h 6
  have b12 := bit_le h 12
  simp only [smallV, sgd, numV, num, List.length_cons, List.length_nil]
  generalize get h 2 1 = x2 at *
  generalize get h 3 1 = x3 at *
  generalize get h 4 1 = x4 at *
  generalize get h 5 1 = x5 at *
  generalize get h 6 1 = x6 at *
  generalize get h 12 1 = x12 at *
  simp
  omega

/-- What is known of a half that is an instruction. -/
def Cls (o rd rs1 rs2 im : Int) : Prop :=
  (0 ≤ rd ∧ rd ≤ 31) ∧ (0 ≤ rs1 ∧ rs1 ≤ 31) ∧ (0 ≤ rs2 ∧ rs2 ≤ 31) ∧ (-131072 ≤ im ∧ im < 131072) ∧
  ((o = 1 ∧ im % 2 = 0) ∨ (o = 3 ∧ im % 2 = 0) ∨ (o = 4 ∧ im % 2 = 0) ∨ ((o = 5 ∨ o = 6) ∧ im % 2 = 0)
    ∨ ((o = 13 ∨ o = 20) ∧ im % 4 = 0 ∧ 0 ≤ im ∧ im < 512) ∨ ((o = 14 ∨ o = 21) ∧ im % 8 = 0 ∧ 0 ≤ im ∧ im < 512)
    ∨ ((22 ≤ o ∧ o ≤ 30) ∧ -512 ≤ im ∧ im < 1024) ∨ (o = 41 ∧ -512 ≤ im ∧ im < 1024) ∨ ((31 ≤ o ∧ o ≤ 40) ∧ im = 0) ∨ ((o = 45 ∨ o = 46) ∧ im = 0) ∨ o = 66) ∧
  ((o = 22 ∧ rs1 = 0) ∨ rd = rs1 ∨ rs1 = 2 ∨ rd = 0 ∨ (11 ≤ o ∧ o ≤ 17) ∨ o = 1 ∨ o = 31 ∨ (o = 4 ∧ rd = 1))
/-- It is none, or known. -/
def Is (h : Nat) (p : Int × Parts) : Prop := p.1 = 0 ∨ (h % 4 ≠ 3 ∧ Cls p.1 p.2.1 p.2.2.1 p.2.2.2.1 p.2.2.2.2)
theorem rR_le (h : Nat) : rR h ≤ 31 := by have := get_lt h 7 5; unfold rR; omega
theorem rS_le (h : Nat) : rS h ≤ 31 := by have := get_lt h 2 5; unfold rS; omega
theorem sR_bd (h : Nat) : 8 ≤ sR h ∧ sR h ≤ 15 := by have := get_lt h 7 3; unfold sR; omega
theorem sS_bd (h : Nat) : 8 ≤ sS h ∧ sS h ≤ 15 := by have := get_lt h 2 3; unfold sS; omega
theorem is_vAddStackTo (h : Nat) (hq : h % 4 ≠ 3) : Is h (vAddStackTo h) := by
  have a1 := rR_le h
  have a2 := rS_le h
  have a3 := sR_bd h
  have a4 := sS_bd h
  have a5 := bit_le h 12
  have n0 := stackToV_bd h
  unfold Is vAddStackTo Cls
  split
  · left; rfl
  · right; dsimp only; omega
theorem is_vLoadWord (h : Nat) (hq : h % 4 ≠ 3) : Is h (vLoadWord h) := by
  have a1 := rR_le h
  have a2 := rS_le h
  have a3 := sR_bd h
  have a4 := sS_bd h
  have a5 := bit_le h 12
  have n0 := wordAtV_bd h
  unfold Is vLoadWord Cls
  right; dsimp only; omega
theorem is_vLoadDouble (h : Nat) (hq : h % 4 ≠ 3) : Is h (vLoadDouble h) := by
  have a1 := rR_le h
  have a2 := rS_le h
  have a3 := sR_bd h
  have a4 := sS_bd h
  have a5 := bit_le h 12
  have n0 := doubleAtV_bd h
  unfold Is vLoadDouble Cls
  right; dsimp only; omega
theorem is_vStoreWord (h : Nat) (hq : h % 4 ≠ 3) : Is h (vStoreWord h) := by
  have a1 := rR_le h
  have a2 := rS_le h
  have a3 := sR_bd h
  have a4 := sS_bd h
  have a5 := bit_le h 12
  have n0 := wordAtV_bd h
  unfold Is vStoreWord Cls
  right; dsimp only; omega
theorem is_vStoreDouble (h : Nat) (hq : h % 4 ≠ 3) : Is h (vStoreDouble h) := by
  have a1 := rR_le h
  have a2 := rS_le h
  have a3 := sR_bd h
  have a4 := sS_bd h
  have a5 := bit_le h 12
  have n0 := doubleAtV_bd h
  unfold Is vStoreDouble Cls
  right; dsimp only; omega
theorem is_vAddSmall (h : Nat) (hq : h % 4 ≠ 3) : Is h (vAddSmall h) := by
  have a1 := rR_le h
  have a2 := rS_le h
  have a3 := sR_bd h
  have a4 := sS_bd h
  have a5 := bit_le h 12
  have n0 := smallV_bd h
  unfold Is vAddSmall Cls
  right; dsimp only; omega
theorem is_vAddSmall32 (h : Nat) (hq : h % 4 ≠ 3) : Is h (vAddSmall32 h) := by
  have a1 := rR_le h
  have a2 := rS_le h
  have a3 := sR_bd h
  have a4 := sS_bd h
  have a5 := bit_le h 12
  have n0 := smallV_bd h
  unfold Is vAddSmall32 Cls
  split
  · left; rfl
  · right; dsimp only; omega
theorem is_vSetSmall (h : Nat) (hq : h % 4 ≠ 3) : Is h (vSetSmall h) := by
  have a1 := rR_le h
  have a2 := rS_le h
  have a3 := sR_bd h
  have a4 := sS_bd h
  have a5 := bit_le h 12
  have n0 := smallV_bd h
  unfold Is vSetSmall Cls
  right; dsimp only; omega
theorem is_vStackOrLui (h : Nat) (hq : h % 4 ≠ 3) : Is h (vStackOrLui h) := by
  have a1 := rR_le h
  have a2 := rS_le h
  have a3 := sR_bd h
  have a4 := sS_bd h
  have a5 := bit_le h 12
  have n0 := stackV_bd h
  have n1 := smallV_bd h
  unfold Is vStackOrLui Cls
  split
  · split
    · left; rfl
    · right; dsimp only; omega
  · split
    · left; rfl
    · right; dsimp only; omega
theorem is_vArithmetic (h : Nat) (hq : h % 4 ≠ 3) : Is h (vArithmetic h) := by
  have a1 := rR_le h
  have a2 := rS_le h
  have a3 := sR_bd h
  have a4 := sS_bd h
  have a5 := bit_le h 12
  have n0 := shiftV_bd h
  have n1 := smallV_bd h
  have pb : pairV (get h 12 1) (get h 5 2) = 0 ∨ (31 ≤ pairV (get h 12 1) (get h 5 2) ∧ pairV (get h 12 1) (get h 5 2) ≤ 40) ∨ pairV (get h 12 1) (get h 5 2) = 45 ∨ pairV (get h 12 1) (get h 5 2) = 46 := by
    have hc := get_lt h 5 2
    revert hc a5
    generalize get h 12 1 = b
    generalize get h 5 2 = c
    intro a5 hc
    rcases (show b = 0 ∨ b = 1 by omega) with rfl | rfl <;> rcases (show c = 0 ∨ c = 1 ∨ c = 2 ∨ c = 3 by omega) with rfl | rfl | rfl | rfl <;> decide
  unfold Is vArithmetic Cls
  split
  · right; dsimp only; omega
  · split
    · right; dsimp only; omega
    · split
      · right; dsimp only; omega
      · dsimp only; omega
theorem is_vJump (h : Nat) (hq : h % 4 ≠ 3) : Is h (vJump h) := by
  have a1 := rR_le h
  have a2 := rS_le h
  have a3 := sR_bd h
  have a4 := sS_bd h
  have a5 := bit_le h 12
  have n0 := jumpV_bd h
  unfold Is vJump Cls
  right; dsimp only; omega
theorem is_vBranchZero (h : Nat) (hq : h % 4 ≠ 3) : Is h (vBranchZero h) := by
  have a1 := rR_le h
  have a2 := rS_le h
  have a3 := sR_bd h
  have a4 := sS_bd h
  have a5 := bit_le h 12
  have n0 := branchV_bd h
  unfold Is vBranchZero Cls
  right; dsimp only; omega
theorem is_vBranchOther (h : Nat) (hq : h % 4 ≠ 3) : Is h (vBranchOther h) := by
  have a1 := rR_le h
  have a2 := rS_le h
  have a3 := sR_bd h
  have a4 := sS_bd h
  have a5 := bit_le h 12
  have n0 := branchV_bd h
  unfold Is vBranchOther Cls
  right; dsimp only; omega
theorem is_vShiftLeft (h : Nat) (hq : h % 4 ≠ 3) : Is h (vShiftLeft h) := by
  have a1 := rR_le h
  have a2 := rS_le h
  have a3 := sR_bd h
  have a4 := sS_bd h
  have a5 := bit_le h 12
  have n0 := shiftV_bd h
  unfold Is vShiftLeft Cls
  right; dsimp only; omega
theorem is_vLoadWordStack (h : Nat) (hq : h % 4 ≠ 3) : Is h (vLoadWordStack h) := by
  have a1 := rR_le h
  have a2 := rS_le h
  have a3 := sR_bd h
  have a4 := sS_bd h
  have a5 := bit_le h 12
  have n0 := lwspV_bd h
  unfold Is vLoadWordStack Cls
  split
  · left; rfl
  · right; dsimp only; omega
theorem is_vLoadDoubleStack (h : Nat) (hq : h % 4 ≠ 3) : Is h (vLoadDoubleStack h) := by
  have a1 := rR_le h
  have a2 := rS_le h
  have a3 := sR_bd h
  have a4 := sS_bd h
  have a5 := bit_le h 12
  have n0 := ldspV_bd h
  unfold Is vLoadDoubleStack Cls
  split
  · left; rfl
  · right; dsimp only; omega
theorem is_vRegisters (h : Nat) (hq : h % 4 ≠ 3) : Is h (vRegisters h) := by
  have a1 := rR_le h
  have a2 := rS_le h
  have a3 := sR_bd h
  have a4 := sS_bd h
  have a5 := bit_le h 12
  unfold Is vRegisters Cls
  generalize get h 12 1 = b at *
  rcases (show b = 0 ∨ b = 1 by omega) with rfl | rfl
  all_goals
    split
    · right; dsimp only; omega
    · split
      · right; dsimp only; omega
      · first | (left; rfl) | (right; simp [bar]; omega)
theorem is_vStoreWordStack (h : Nat) (hq : h % 4 ≠ 3) : Is h (vStoreWordStack h) := by
  have a1 := rR_le h
  have a2 := rS_le h
  have a3 := sR_bd h
  have a4 := sS_bd h
  have a5 := bit_le h 12
  have n0 := swspV_bd h
  unfold Is vStoreWordStack Cls
  right; dsimp only; omega
theorem is_vStoreDoubleStack (h : Nat) (hq : h % 4 ≠ 3) : Is h (vStoreDoubleStack h) := by
  have a1 := rR_le h
  have a2 := rS_le h
  have a3 := sR_bd h
  have a4 := sS_bd h
  have a5 := bit_le h 12
  have n0 := sdspV_bd h
  unfold Is vStoreDoubleStack Cls
  right; dsimp only; omega
theorem get_q (h : Nat) : get h 0 2 = h % 4 := by simp [F.get]
theorem is_form (h q f : Nat) (hq : q = h % 4) : Is h (form h q f) := by
  unfold form
  by_cases q0 : q = 0
  · rw [if_pos q0]
    have hn : h % 4 ≠ 3 := by omega
    by_cases f0 : f = 0
    · rw [if_pos f0]; exact is_vAddStackTo h hn
    rw [if_neg f0]
    by_cases f2 : f = 2
    · rw [if_pos f2]; exact is_vLoadWord h hn
    rw [if_neg f2]
    by_cases f3 : f = 3
    · rw [if_pos f3]; exact is_vLoadDouble h hn
    rw [if_neg f3]
    by_cases f6 : f = 6
    · rw [if_pos f6]; exact is_vStoreWord h hn
    rw [if_neg f6]
    by_cases f7 : f = 7
    · rw [if_pos f7]; exact is_vStoreDouble h hn
    rw [if_neg f7]
    exact Or.inl rfl
  rw [if_neg q0]
  by_cases q1 : q = 1
  · rw [if_pos q1]
    have hn : h % 4 ≠ 3 := by omega
    by_cases f0 : f = 0
    · rw [if_pos f0]; exact is_vAddSmall h hn
    rw [if_neg f0]
    by_cases f1 : f = 1
    · rw [if_pos f1]; exact is_vAddSmall32 h hn
    rw [if_neg f1]
    by_cases f2 : f = 2
    · rw [if_pos f2]; exact is_vSetSmall h hn
    rw [if_neg f2]
    by_cases f3 : f = 3
    · rw [if_pos f3]; exact is_vStackOrLui h hn
    rw [if_neg f3]
    by_cases f4 : f = 4
    · rw [if_pos f4]; exact is_vArithmetic h hn
    rw [if_neg f4]
    by_cases f5 : f = 5
    · rw [if_pos f5]; exact is_vJump h hn
    rw [if_neg f5]
    by_cases f6 : f = 6
    · rw [if_pos f6]; exact is_vBranchZero h hn
    rw [if_neg f6]
    exact is_vBranchOther h hn
  rw [if_neg q1]
  by_cases q2 : q = 2
  · rw [if_pos q2]
    have hn : h % 4 ≠ 3 := by omega
    by_cases f0 : f = 0
    · rw [if_pos f0]; exact is_vShiftLeft h hn
    rw [if_neg f0]
    by_cases f2 : f = 2
    · rw [if_pos f2]; exact is_vLoadWordStack h hn
    rw [if_neg f2]
    by_cases f3 : f = 3
    · rw [if_pos f3]; exact is_vLoadDoubleStack h hn
    rw [if_neg f3]
    by_cases f4 : f = 4
    · rw [if_pos f4]; exact is_vRegisters h hn
    rw [if_neg f4]
    by_cases f6 : f = 6
    · rw [if_pos f6]; exact is_vStoreWordStack h hn
    rw [if_neg f6]
    by_cases f7 : f = 7
    · rw [if_pos f7]; exact is_vStoreDoubleStack h hn
    rw [if_neg f7]
    exact Or.inl rfl
  rw [if_neg q2]
  exact Or.inl rfl
/-- A half is none, or known. -/
theorem half_is (h : Nat) : halfV h = (0, 0, 0, 0, 0) ∨ (h % 4 ≠ 3 ∧ ∃ o rd rs1 rs2 im, halfV h = (o, rd, rs1, rs2, im) ∧ Cls o rd rs1 rs2 im) := by
  have hf : Is h (formV h) := is_form h _ _ (get_q h)
  unfold halfV
  by_cases h0 : (formV h).1 = 0
  · rw [if_pos h0]; exact Or.inl rfl
  · rw [if_neg h0]
    rcases hf with hf | ⟨hq, hf⟩
    · exact absurd hf h0
    · exact Or.inr ⟨hq, _, _, _, _, _, rfl, hf⟩
/-- What a word is: by its two lowest bits. -/
def anyV (x : Nat) : Int × Parts := if x % 4 = 3 then wordV x else halfV (x % 65536)
end Go.Proofs.YtpbeamnogfjagaaGreatDoor.D
