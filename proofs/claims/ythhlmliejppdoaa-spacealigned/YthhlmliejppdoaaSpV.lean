/-
  Plain mathematics of layer 13 (space): what an address becomes, and a load, a store, a fetch, over memory's bytes and a row of leaves.
  Conditions: none; nothing here speaks of the program.
-/
import Derived.Test.YthhlmliejppdoaaTlbT0
import Derived.Test.YthhlmliejppdoaaLayK
namespace Go.Proofs.Ythhlmliejppdoaa.S
open Go Go.RowKit W D A P M K T
set_option linter.unusedVariables false

/-- The fault of an address of n bytes, and where it is. -/
def sF (bs : List Int) (L : List Lf) (sa st priv kind va n : Int) : Wr :=
  if (toFV bs L sa st priv kind va).isf = true then toFV bs L sa st priv kind va else
  if hasB bs.length (toRV bs L sa st priv kind va) n = true then foundV 0 0 false else faultV (naC kind) va
def sR (bs : List Int) (L : List Lf) (sa st priv kind va n : Int) : Int :=
  if (sF bs L sa st priv kind va n).isf = true then 0 else toRV bs L sa st priv kind va
/-- What an access's addresses are: a fault or the addresses; what is kept then, how many walks. -/
structure Ans where
  f : Wr
  all : List Int
  L : List Lf
  n : Int
def stepA (va i : Int) : Int := (va + i) % 18446744073709551616
/-- Byte by byte, k bytes from the i-th on. -/
def runV (bs : List Int) (most : Nat) (sa st priv kind va : Int) : Nat → Nat → List Lf → Int → Ans
  | 0, i, L, n => ⟨foundV 0 0 false, [], L, n⟩
  | k + 1, i, L, n =>
    if (sF bs L sa st priv kind (stepA va i) 1).isf = true then ⟨sF bs L sa st priv kind (stepA va i) 1, [], toLV bs most L sa st priv kind (stepA va i), toNV L n sa st priv kind (stepA va i)⟩ else
    if (runV bs most sa st priv kind va k (i + 1) (toLV bs most L sa st priv kind (stepA va i)) (toNV L n sa st priv kind (stepA va i))).f.isf = true then runV bs most sa st priv kind va k (i + 1) (toLV bs most L sa st priv kind (stepA va i)) (toNV L n sa st priv kind (stepA va i)) else
    { runV bs most sa st priv kind va k (i + 1) (toLV bs most L sa st priv kind (stepA va i)) (toNV L n sa st priv kind (stepA va i)) with all := sR bs L sa st priv kind (stepA va i) 1 :: (runV bs most sa st priv kind va k (i + 1) (toLV bs most L sa st priv kind (stepA va i)) (toNV L n sa st priv kind (stepA va i))).all }
/-- What came before is in front. -/
def inFront (acc : List Int) (r : Ans) : Ans := if r.f.isf = true then r else { r with all := acc ++ r.all }
theorem inFront_nil (r : Ans) : inFront [] r = r := by unfold inFront; split <;> rfl
/-- The addresses of m bytes from one on. -/
def rowA (x : Int) (m : Nat) : List Int := (List.range m).map fun (i : Nat) => stepA x i
def togV (bs : List Int) (most : Nat) (sa st priv kind va : Int) (m : Nat) (L : List Lf) (n : Int) : Ans :=
  ⟨sF bs L sa st priv kind va m, if (sF bs L sa st priv kind va m).isf = true then [] else rowA (sR bs L sa st priv kind va m) m, toLV bs most L sa st priv kind va, toNV L n sa st priv kind va⟩
def realsV (bs : List Int) (most : Nat) (sa st priv kind va : Int) (m : Nat) (L : List Lf) (n : Int) : Ans :=
  if va % m = 0 then togV bs most sa st priv kind va m L n else runV bs most sa st priv kind va m 0 L n
/-- The number that bytes at such addresses are. -/
def loadX (bs : List Int) (all : List Int) : Int := leV (all.map fun a => getV bs a 1)
def storeX : List Int → List Int → Int → List Int
  | bs, [], x => bs
  | bs, a :: r, x => storeX (putV bs a 1 x) r (x / 256)
theorem sR_64 {bs : List Int} {L : List Lf} {sa st priv kind va n : Int} (h : B64 (toRV bs L sa st priv kind va)) : B64 (sR bs L sa st priv kind va n) := by
  unfold sR
  split
  · unfold B64; omega
  · exact h
theorem step_64 (va i : Int) : B64 (stepA va i) := by unfold stepA B64; omega
theorem rowA_length (x : Int) (m : Nat) : (rowA x m).length = m := by simp [rowA]
end Go.Proofs.Ythhlmliejppdoaa.S
