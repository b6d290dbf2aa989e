/-
  Plain mathematics of layer 7 (alu): what two numbers become by an op, as functions of whole numbers.
  Conditions: none; nothing here speaks of the program.
-/
import Derived.Test.YtecpghenjannhaaWordV
import Derived.Test.YtecpghenjannhaaAluKV
namespace Go.Proofs.Ytecpghenjannhaa.A
open Go Go.RowKit W D
set_option linter.unusedVariables false

def B64 (a : Int) : Prop := 0 ≤ a ∧ a ≤ 18446744073709551615
def ltS (a b : Int) : Bool := decide (wrap64 a < wrap64 b)
def ltU (a b : Int) : Bool := decide (a < b)
def eqU (a b : Int) : Bool := decide (a = b)
def notT (t : Int → Int → Bool) (a b : Int) : Bool := !t a b
def sumV (a b : Int) : Int := IntKind.u64.wrap (a + b)
def difV (a b : Int) : Int := IntKind.u64.wrap (a - b)
def mulV (a b : Int) : Int := IntKind.u64.wrap (a * b)
def xorV (a b : Int) : Int := bits .xor .u64 a b
def orV (a b : Int) : Int := bits .or .u64 a b
def andV (a b : Int) : Int := bits .and .u64 a b
def flagV (t : Int → Int → Bool) (a b : Int) : Int := if t a b = true then 1 else 0
def lowV (a : Int) : Int := a % 4294967296
def lowS (a : Int) : Int := sextV a 32
def lowerV (f : Int → Int → Int) (a b : Int) : Int := lowS (f a b)
def shV (k : Int) (a b : Int) : Int := shiftV a (b % 64) k
def sh32V (r : Int → Int) (k : Int) (a b : Int) : Int := lowS (shiftV (r a) (b % 32) k)
def hiV (sa sb : Bool) (a b : Int) : Int := highV a b sa sb
def byV (f : Int → Int → Bool → Int) (s : Bool) (a b : Int) : Int := f a b s

abbrev Tb := List (Int × (Int → Int → Int))
abbrev Tt := List (Int × (Int → Int → Bool))
def look {α : Type} : List (Int × α) → Int → Option α
  | [], _ => none
  | (k, f) :: L, x => if x = k then some f else look L x
def tNum : Tb := [(30, shV 2), (29, shV 1), (28, shV 0), (24, flagV ltU), (23, flagV ltS), (27, andV), (26, orV), (25, xorV), (22, sumV)]
def tReg : Tb := [(38, shV 2), (37, shV 1), (33, shV 0), (35, flagV ltU), (34, flagV ltS), (40, andV), (39, orV), (36, xorV), (32, difV), (31, sumV)]
def tNum32 : Tb := [(44, sh32V lowS 2), (43, sh32V lowV 1), (42, sh32V lowV 0), (41, lowerV sumV)]
def tReg32 : Tb := [(49, sh32V lowS 2), (48, sh32V lowV 1), (47, sh32V lowV 0), (46, lowerV difV), (45, lowerV sumV)]
def tPro : Tb := [(57, byV remV false), (56, byV remV true), (55, byV divV false), (54, byV divV true), (53, hiV false false), (52, hiV true false), (51, hiV true true), (50, mulV)]
def tPro32 : Tb := [(62, byV rem32V false), (61, byV rem32V true), (60, byV div32V false), (59, byV div32V true), (58, lowerV mulV)]
def tBra : Tt := [(10, notT ltU), (9, ltU), (8, notT ltS), (7, ltS), (6, notT eqU), (5, eqU)]
/-- The table of a kind. -/
def tabV (k : Int) : Tb := if k = 5 then tNum else if k = 6 then tReg else if k = 7 then tNum32 else if k = 8 then tReg32 else if k = 9 then tPro else if k = 10 then tPro32 else []
def doV (o a b : Int) : Int := match look (tabV (kindV o)) o with | some f => f a b | none => 0
def takenV (o a b : Int) : Bool := match look tBra o with | some t => t a b | none => false
def secondV (o im b : Int) : Int := if kindV o = 5 ∨ kindV o = 7 then IntKind.u64.wrap im else b

theorem lowS_bd {a : Int} (h : B64 a) : B64 (lowS a) := sextV_bd a 32 h
theorem lowV_bd {a : Int} (h : B64 a) : B64 (lowV a) := by unfold B64 lowV at *; omega
theorem sum_bd (a b : Int) : B64 (sumV a b) := u64_bd _
theorem dif_bd (a b : Int) : B64 (difV a b) := u64_bd _
theorem mul_bd (a b : Int) : B64 (mulV a b) := u64_bd _
theorem flag_bd (t : Int → Int → Bool) (a b : Int) : B64 (flagV t a b) := by unfold flagV B64; split <;> omega
theorem xor_bd {a b : Int} (ha : B64 a) (hb : B64 b) : B64 (xorV a b) := by
  unfold xorV; rw [u64_xor _ _ ha.1 (by have := ha.2; omega) hb.1 (by have := hb.2; omega)]
  have h1 : a.toNat < 2 ^ 64 := by have := ha.1; have := ha.2; omega
  have h2 : b.toNat < 2 ^ 64 := by have := hb.1; have := hb.2; omega
  have := Nat.xor_lt_two_pow h1 h2
  unfold B64; omega
theorem or_bd {a b : Int} (ha : B64 a) (hb : B64 b) : B64 (orV a b) := by
  unfold orV; rw [u64_or _ _ ha.1 (by have := ha.2; omega) hb.1 (by have := hb.2; omega)]
  have h1 : a.toNat < 2 ^ 64 := by have := ha.1; have := ha.2; omega
  have h2 : b.toNat < 2 ^ 64 := by have := hb.1; have := hb.2; omega
  have := Nat.or_lt_two_pow h1 h2
  unfold B64; omega
theorem and_bd {a b : Int} (ha : B64 a) (hb : B64 b) : B64 (andV a b) := by
  unfold andV; rw [u64_and _ _ ha.1 (by have := ha.2; omega) hb.1 (by have := hb.2; omega)]
  have h1 : a.toNat < 2 ^ 64 := by have := ha.1; have := ha.2; omega
  have := Nat.and_lt_two_pow a.toNat (show b.toNat < 2 ^ 64 by have := hb.1; have := hb.2; omega)
  unfold B64; omega
end Go.Proofs.Ytecpghenjannhaa.A
