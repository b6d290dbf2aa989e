/-
  Plain mathematics of layer 4 (decode): tables, what a word means, kinds.
  Conditions: none; nothing here speaks of the program.
-/
import Derived.Test.YtpbeamnogfjagaaGreatDoorFieldN
namespace Go.Proofs.YtpbeamnogfjagaaGreatDoor.D
open Go Go.RowKit F
set_option linter.unusedVariables false

abbrev Rws := List (Int × Int)
/-- The row of a table at a key; 0 where there is none. -/
def look : Rws → Int → Int
  | [], _ => 0
  | (a, b) :: L, k => if k = a then b else look L k
def tIndirect : Rws := [(0, 4)]
def tBranches : Rws := [(7, 10), (6, 9), (5, 8), (4, 7), (1, 6), (0, 5)]
def tLoads : Rws := [(6, 17), (5, 16), (4, 15), (3, 14), (2, 13), (1, 12), (0, 11)]
def tStores : Rws := [(3, 21), (2, 20), (1, 19), (0, 18)]
def tPlain : Rws := [(7, 27), (6, 26), (4, 25), (3, 24), (2, 23), (0, 22)]
def tShifts (k : Int) : Rws := if k = 0 then [(5, 29), (1, 28)] else if k = 16 then [(5, 30)] else []
def tShifts32 (k : Int) : Rws := if k = 0 then [(5, 43), (1, 42)] else if k = 32 then [(5, 44)] else []
def tRegs (k : Int) : Rws := if k = 0 then [(7, 40), (6, 39), (5, 37), (4, 36), (3, 35), (2, 34), (1, 33), (0, 31)] else if k = 32 then [(5, 38), (0, 32)] else if k = 1 then [(7, 57), (6, 56), (5, 55), (4, 54), (3, 53), (2, 52), (1, 51), (0, 50)] else []
def tRegs32 (k : Int) : Rws := if k = 0 then [(5, 48), (1, 47), (0, 45)] else if k = 32 then [(5, 49), (0, 46)] else if k = 1 then [(7, 62), (6, 61), (5, 60), (4, 59), (0, 58)] else []
def tFences : Rws := [(1, 64), (0, 63)]
def tWholes : Rws := [(273678451, 68), (270532723, 67), (1048691, 66), (115, 65)]
def tCsrs : Rws := [(7, 75), (6, 74), (5, 73), (3, 72), (2, 71), (1, 70)]
def tAtomics : Rws := [(28, 86), (24, 85), (20, 84), (16, 83), (8, 82), (12, 81), (4, 80), (0, 79), (1, 78), (3, 77), (2, 76)]

/-- The parts of an instruction beside its op and its length: Rd, Rs1, Rs2, Imm. -/
abbrev Parts := Int × Int × Int × Int
def tgt (x : Nat) (n : Int) : Parts := ((get x 7 5 : Nat), 0, 0, n)
def src (x : Nat) (n : Int) : Parts := ((get x 7 5 : Nat), (get x 15 5 : Nat), 0, n)
def par (x : Nat) (n : Int) : Parts := (0, (get x 15 5 : Nat), (get x 20 5 : Nat), n)
def thr (x : Nat) : Parts := ((get x 7 5 : Nat), (get x 15 5 : Nat), (get x 20 5 : Nat), 0)
def bar : Parts := (0, 0, 0, 0)

def f3 (x : Nat) : Int := (get x 12 3 : Nat)
def f7 (x : Nat) : Int := (get x 25 7 : Nat)
def withN (x : Nat) (g : Int) : Int × Parts :=
  if g = 1 ∨ g = 5 then (look (tShifts (get x 26 6 : Nat)) g, src x (get x 20 6 : Nat)) else (look tPlain g, src x (immV x 1))
def withN32 (x : Nat) (g h : Int) : Int × Parts :=
  if g = 0 then (41, src x (immV x 1)) else (look (tShifts32 h) g, src x (get x 20 5 : Nat))
def sysV (x : Nat) (g h : Int) : Int × Parts :=
  if g ≠ 0 then (look tCsrs g, src x (get x 20 12 : Nat)) else if h = 9 ∧ get x 7 5 = 0 then (69, par x 0) else (look tWholes x, bar)
def atoV (x : Nat) (g : Int) : Int × Parts :=
  let op := look tAtomics (get x 27 5 : Nat)
  if op = 0 ∨ (g ≠ 2 ∧ g ≠ 3) then (0, bar)
  else if op = 76 then (if get x 20 5 ≠ 0 then (0, bar) else (if g = 3 then 87 else 76, src x 0))
  else (if g = 3 then op + 11 else op, thr x)
/-- What a word means: its op, and its parts. -/
def mean (x : Nat) : Int × Parts :=
  if get x 0 7 = 55 then (1, tgt x (immV x 4))
  else if get x 0 7 = 23 then (2, tgt x (immV x 4))
  else if get x 0 7 = 111 then (3, tgt x (immV x 5))
  else if get x 0 7 = 103 then (look tIndirect (f3 x), src x (immV x 1))
  else if get x 0 7 = 99 then (look tBranches (f3 x), par x (immV x 3))
  else if get x 0 7 = 3 then (look tLoads (f3 x), src x (immV x 1))
  else if get x 0 7 = 35 then (look tStores (f3 x), par x (immV x 2))
  else if get x 0 7 = 19 then withN x (f3 x)
  else if get x 0 7 = 27 then withN32 x (f3 x) (f7 x)
  else if get x 0 7 = 51 then (look (tRegs (f7 x)) (f3 x), thr x)
  else if get x 0 7 = 59 then (look (tRegs32 (f7 x)) (f3 x), thr x)
  else if get x 0 7 = 15 then (look tFences (f3 x), bar)
  else if get x 0 7 = 115 then sysV x (f3 x) (f7 x)
  else if get x 0 7 = 47 then atoV x (f3 x)
  else (0, bar)
/-- The instruction of a word: its op, and its parts; nothing where it is none. -/
def wordV (x : Nat) : Int × Parts := if (mean x).1 = 0 then (0, bar) else mean x
/-- An instruction in the model's memory. -/
def insn (n : Int) (p : Int × Parts) : Array Value := #[.int .i64 p.1, .int .i64 p.2.1, .int .i64 p.2.2.1, .int .i64 p.2.2.2.1, .int .i64 p.2.2.2.2, .int .i64 n]

theorem look_in {L : Rws} {lo hi : Int} (h : ∀ p ∈ L, lo ≤ p.2 ∧ p.2 ≤ hi) (h0 : lo ≤ 0 ∧ 0 ≤ hi) (k : Int) : lo ≤ look L k ∧ look L k ≤ hi := by
  induction L with
  | nil => exact h0
  | cons p L ih =>
    obtain ⟨a, b⟩ := p
    rw [look]
    split
    · exact h (a, b) (by simp)
    · exact ih fun p hp => h p (by simp [hp])
end Go.Proofs.YtpbeamnogfjagaaGreatDoor.D
