/-
  What Legal of package csr answers: a contract over the program's translation.
  Conditions: the arguments are numbers of their kinds.
-/
import Derived.Test.YtkfmcbhoendocaaDoorCsrE
namespace Go.Proofs.YtkfmcbhoendocaaDoor
open Go Go.RowKit Go.Maps W M D A C
set_option linter.unusedVariables false
set_option linter.unusedSimpArgs false

def numV (k : Nat) : Int := [256, 260, 261, 262, 321].getD k 0
def stepV (c : Cs) : Nat → Cs
  | 0 => c
  | k + 1 => againV (stepV c k) (numV k)
theorem step_good {c : Cs} (h : C.Good c) : ∀ k, C.Good (stepV c k)
  | 0 => h
  | k + 1 => again_good (step_good h k) _
theorem step_five (c : Cs) : stepV c 5 = fiveV c := rfl
/-- How the row stands behind k rounds. -/
structure Lg (w : World) (q : Nat) (c : Cs) (k : Nat) (wr : World) : Prop where
  row : Row wr q 24 (lC (stepV c k))
  zer : Row wr (q + 1) 24 zC
  gr : w.grownBy wr none
end Go.Proofs.YtkfmcbhoendocaaDoor
