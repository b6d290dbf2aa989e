/-
  Plain mathematics of layer 5 (comp): numbers made of bits of a half, and what each half means.
  Conditions: none; nothing here speaks of the program.
-/
import Derived.Test.YtpbeamnogfjagaaGreatDoorDecKV
namespace Go.Proofs.YtpbeamnogfjagaaGreatDoor.D
open Go Go.RowKit F
set_option linter.unusedVariables false

theorem bit_le (h k : Nat) : get h k 1 ≤ 1 := by have := get_lt h k 1; omega
/-- A number made of bits of h, that of its highest one first, behind n; 0 names a bit 0. -/
def num (h : Nat) : Nat → List Nat → Nat
  | n, [] => n
  | n, k :: L => num h (2 * n + (if k = 0 then 0 else get h k 1)) L
theorem num_lt (h : Nat) : ∀ (L : List Nat) (n m : Nat), n < 2 ^ m → num h n L < 2 ^ (m + L.length)
  | [], n, m, hn => by simpa [num] using hn
  | k :: L, n, m, hn => by
    rw [num, List.length_cons, show m + (L.length + 1) = (m + 1) + L.length by omega]
    apply num_lt h L
    have := bit_le h k
    rw [Nat.pow_succ]
    split <;> omega
theorem num_eq (h : Nat) : ∀ (L : List Nat) (n : Nat), num h n L = n * 2 ^ L.length + num h 0 L
  | [], n => by simp [num]
  | k :: L, n => by
    rw [num, num, num_eq h L, num_eq h L (2 * 0 + _), List.length_cons, Nat.pow_succ]
    generalize (if k = 0 then 0 else get h k 1) = b
    generalize 2 ^ L.length = p
    rw [Nat.mul_zero, Nat.zero_add, Nat.add_mul, Nat.add_assoc, Nat.mul_comm 2 n, Nat.mul_assoc, Nat.mul_comm 2 p]
def numV (h : Nat) (L : List Nat) : Nat := num h 0 L
theorem numV_lt (h : Nat) (L : List Nat) : numV h L < 2 ^ L.length := by
  have := num_lt h L 0 0 (by decide)
  rwa [Nat.zero_add] at this
theorem numV_one (h s : Nat) (hs : s ≠ 0) : numV h [s] = get h s 1 := by simp [numV, num, hs]
theorem numV_cons (h s : Nat) (hs : s ≠ 0) (L : List Nat) : numV h (s :: L) = get h s 1 * 2 ^ L.length + numV h L := by
  rw [numV, num, num_eq, if_neg hs, numV]; simp
/-- One whose highest bit, s, counts below 0. -/
def sgd (h s : Nat) (L : List Nat) : Int := (numV h L : Nat) - (numV h [s] : Nat) * 2 ^ L.length

def rR (h : Nat) : Nat := get h 7 5
def rS (h : Nat) : Nat := get h 2 5
def sR (h : Nat) : Nat := get h 7 3 + 8
def sS (h : Nat) : Nat := get h 2 3 + 8
def smallV (h : Nat) : Int := sgd h 12 [6, 5, 4, 3, 2]
def shiftV (h : Nat) : Int := (numV h [12, 6, 5, 4, 3, 2] : Nat)
def wordAtV (h : Nat) : Int := (numV h [5, 12, 11, 10, 6, 0, 0] : Nat)
def doubleAtV (h : Nat) : Int := (numV h [6, 5, 12, 11, 10, 0, 0, 0] : Nat)
def branchV (h : Nat) : Int := sgd h 12 [6, 5, 2, 11, 10, 4, 3, 0]
def jumpV (h : Nat) : Int := sgd h 12 [8, 10, 9, 6, 7, 2, 11, 5, 4, 3, 0]
def stackToV (h : Nat) : Int := (numV h [10, 9, 8, 7, 12, 11, 5, 6, 0, 0] : Nat)
def stackV (h : Nat) : Int := sgd h 12 [4, 3, 5, 2, 6, 0, 0, 0, 0]
def lwspV (h : Nat) : Int := (numV h [3, 2, 12, 6, 5, 4, 0, 0] : Nat)
def ldspV (h : Nat) : Int := (numV h [4, 3, 2, 12, 6, 5, 0, 0, 0] : Nat)
def swspV (h : Nat) : Int := (numV h [8, 7, 12, 11, 10, 9, 0, 0] : Nat)
def sdspV (h : Nat) : Int := (numV h [9, 8, 7, 12, 11, 10, 0, 0, 0] : Nat)

/-! ### Each form: its op, and its parts; op 0 is none -/
def vNone : Int × Parts := (0, bar)
def vAddStackTo (h : Nat) : Int × Parts := if stackToV h = 0 then (0, bar) else (22, (sS h : Nat), 2, 0, stackToV h)
def vLoadWord (h : Nat) : Int × Parts := (13, (sS h : Nat), (sR h : Nat), 0, wordAtV h)
def vLoadDouble (h : Nat) : Int × Parts := (14, (sS h : Nat), (sR h : Nat), 0, doubleAtV h)
def vStoreWord (h : Nat) : Int × Parts := (20, 0, (sR h : Nat), (sS h : Nat), wordAtV h)
def vStoreDouble (h : Nat) : Int × Parts := (21, 0, (sR h : Nat), (sS h : Nat), doubleAtV h)
def vAddSmall (h : Nat) : Int × Parts := (22, (rR h : Nat), (rR h : Nat), 0, smallV h)
def vAddSmall32 (h : Nat) : Int × Parts := if rR h = 0 then (0, bar) else (41, (rR h : Nat), (rR h : Nat), 0, smallV h)
def vSetSmall (h : Nat) : Int × Parts := (22, (rR h : Nat), 0, 0, smallV h)
def vStackOrLui (h : Nat) : Int × Parts :=
  if rR h = 2 then (if stackV h = 0 then (0, bar) else (22, 2, 2, 0, stackV h)) else (if smallV h = 0 then (0, bar) else (1, (rR h : Nat), 0, 0, smallV h * 4096))
def pairV (b c : Nat) : Int := ([32, 36, 39, 40, 46, 45, 0, 0] : List Int).getD (b * 4 + c) 0
def vArithmetic (h : Nat) : Int × Parts :=
  if get h 10 2 = 0 then (29, (sR h : Nat), (sR h : Nat), 0, shiftV h)
  else if get h 10 2 = 1 then (30, (sR h : Nat), (sR h : Nat), 0, shiftV h)
  else if get h 10 2 = 2 then (27, (sR h : Nat), (sR h : Nat), 0, smallV h)
  else (pairV (get h 12 1) (get h 5 2), (sR h : Nat), (sR h : Nat), (sS h : Nat), 0)
def vJump (h : Nat) : Int × Parts := (3, 0, 0, 0, jumpV h)
def vBranchZero (h : Nat) : Int × Parts := (5, 0, (sR h : Nat), 0, branchV h)
def vBranchOther (h : Nat) : Int × Parts := (6, 0, (sR h : Nat), 0, branchV h)
def vShiftLeft (h : Nat) : Int × Parts := (28, (rR h : Nat), (rR h : Nat), 0, shiftV h)
def vLoadWordStack (h : Nat) : Int × Parts := if rR h = 0 then (0, bar) else (13, (rR h : Nat), 2, 0, lwspV h)
def vLoadDoubleStack (h : Nat) : Int × Parts := if rR h = 0 then (0, bar) else (14, (rR h : Nat), 2, 0, ldspV h)
def vRegisters (h : Nat) : Int × Parts :=
  if rS h ≠ 0 then (31, (rR h : Nat), (rR h * get h 12 1 : Nat), (rS h : Nat), 0)
  else if rR h ≠ 0 then (4, (get h 12 1 : Nat), (rR h : Nat), 0, 0)
  else if get h 12 1 = 1 then (66, bar) else (0, bar)
def vStoreWordStack (h : Nat) : Int × Parts := (20, 0, 2, (rS h : Nat), swspV h)
def vStoreDoubleStack (h : Nat) : Int × Parts := (21, 0, 2, (rS h : Nat), sdspV h)
/-- By q and f. -/
def form (h q f : Nat) : Int × Parts :=
  if q = 0 then (if f = 0 then vAddStackTo h else if f = 2 then vLoadWord h else if f = 3 then vLoadDouble h else if f = 6 then vStoreWord h else if f = 7 then vStoreDouble h else vNone)
  else if q = 1 then (if f = 0 then vAddSmall h else if f = 1 then vAddSmall32 h else if f = 2 then vSetSmall h else if f = 3 then vStackOrLui h else if f = 4 then vArithmetic h
    else if f = 5 then vJump h else if f = 6 then vBranchZero h else vBranchOther h)
  else if q = 2 then (if f = 0 then vShiftLeft h else if f = 2 then vLoadWordStack h else if f = 3 then vLoadDoubleStack h else if f = 4 then vRegisters h else if f = 6 then vStoreWordStack h
    else if f = 7 then vStoreDoubleStack h else vNone)
  else vNone
def formV (h : Nat) : Int × Parts := form h (get h 0 2) (get h 13 3)
/-- What a half is: its op, and its parts; nothing where it is none. -/
def halfV (h : Nat) : Int × Parts := if (formV h).1 = 0 then (0, bar) else formV h
end Go.Proofs.YtpbeamnogfjagaaGreatDoor.D
