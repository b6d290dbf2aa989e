/-
  Plain mathematics of layer 13 (space): a fetch: two bytes, or four.
  Conditions: none; nothing here speaks of the program.
-/
import Derived.Test.YthhlmliejppdoaaSpV
import Derived.Test.YthhlmliejppdoaaRamW
namespace Go.Proofs.Ythhlmliejppdoaa.S
open Go Go.RowKit W D A P M K T
set_option linter.unusedVariables false

theorem get2_bd {bs : List Int} (h : Byt bs) (a : Int) : 0 ≤ getV bs a 2 ∧ getV bs a 2 ≤ 65535 := by
  unfold getV
  split
  · have := leV_bd _ (take_byt (drop_byt h (offV a)) (2 : Int).toNat)
    have hl : ((bs.drop (offV a)).take (2 : Int).toNat).length ≤ 2 := by simp; omega
    have hp := p256_le hl
    omega
  · omega
/-- The half of an instruction at an address: 0 with a fault. -/
def halfV (bs : List Int) (L : List Lf) (sa st priv va : Int) : Int := if (sF bs L sa st priv 0 va 2).isf = true then 0 else getV bs (sR bs L sa st priv 0 va 2) 2
structure Fet where
  x : Int
  f : Wr
  L : List Lf
  n : Int
def fetchV (bs : List Int) (most : Nat) (sa st priv pc : Int) (L : List Lf) (n : Int) : Fet :=
  if ((sF bs L sa st priv 0 pc 2).isf || decide (halfV bs L sa st priv pc % 4 ≠ 3)) = true then ⟨halfV bs L sa st priv pc, sF bs L sa st priv 0 pc 2, toLV bs most L sa st priv 0 pc, toNV L n sa st priv 0 pc⟩ else
  if (sF bs (toLV bs most L sa st priv 0 pc) sa st priv 0 (stepA pc 2) 2).isf = true then ⟨0, sF bs (toLV bs most L sa st priv 0 pc) sa st priv 0 (stepA pc 2) 2, toLV bs most (toLV bs most L sa st priv 0 pc) sa st priv 0 (stepA pc 2), toNV (toLV bs most L sa st priv 0 pc) (toNV L n sa st priv 0 pc) sa st priv 0 (stepA pc 2)⟩ else
  ⟨halfV bs (toLV bs most L sa st priv 0 pc) sa st priv (stepA pc 2) * 65536 + halfV bs L sa st priv pc, sF bs (toLV bs most L sa st priv 0 pc) sa st priv 0 (stepA pc 2) 2, toLV bs most (toLV bs most L sa st priv 0 pc) sa st priv 0 (stepA pc 2), toNV (toLV bs most L sa st priv 0 pc) (toNV L n sa st priv 0 pc) sa st priv 0 (stepA pc 2)⟩
theorem half_bd {bs : List Int} (h : Byt bs) (L : List Lf) (sa st priv va : Int) : 0 ≤ halfV bs L sa st priv va ∧ halfV bs L sa st priv va ≤ 65535 := by
  unfold halfV
  split
  · omega
  · exact get2_bd h _
theorem and3_u32 (a : Int) (ha : 0 ≤ a ∧ a ≤ 65535) : bits .and .u32 a 3 = a % 4 := by
  obtain ⟨n, rfl⟩ : ∃ n : Nat, a = n := ⟨a.toNat, by omega⟩
  show IntKind.u32.wrap (((BitVec.ofInt 32 (n : Int) &&& BitVec.ofInt 32 ((2 ^ 2 - 1 : Nat) : Int)).toNat : Nat) : Int) = _
  rw [BitVec.toNat_and, BitVec.toNat_ofInt, BitVec.toNat_ofInt, IntKind.wrap_u32]
  have ex : ((n : Int) % ((2 ^ 32 : Nat) : Int)).toNat = n := by rw [show (2 : Nat) ^ 32 = 4294967296 from rfl]; omega
  rw [ex, show (((2 ^ 2 - 1 : Nat) : Int) % ((2 ^ 32 : Nat) : Int)).toNat = 2 ^ 2 - 1 from rfl, Nat.and_two_pow_sub_one_eq_mod]
  omega
theorem and3_u64 (a : Int) (ha : 0 ≤ a ∧ a ≤ 65535) : bits .and .u64 a 3 = a % 4 := by
  obtain ⟨n, rfl⟩ : ∃ n : Nat, a = n := ⟨a.toNat, by omega⟩
  show IntKind.u64.wrap (((BitVec.ofInt 64 (n : Int) &&& BitVec.ofInt 64 ((2 ^ 2 - 1 : Nat) : Int)).toNat : Nat) : Int) = _
  rw [BitVec.toNat_and, BitVec.toNat_ofInt, BitVec.toNat_ofInt, IntKind.wrap_u64]
  have ex : ((n : Int) % ((2 ^ 64 : Nat) : Int)).toNat = n := by rw [show (2 : Nat) ^ 64 = 18446744073709551616 from rfl]; omega
  rw [ex, show (((2 ^ 2 - 1 : Nat) : Int) % ((2 ^ 64 : Nat) : Int)).toNat = 2 ^ 2 - 1 from rfl, Nat.and_two_pow_sub_one_eq_mod]
  omega
theorem or_u32 (h l : Int) (hh : 0 ≤ h ∧ h ≤ 65535) (hl : 0 ≤ l ∧ l ≤ 65535) : bits .or .u32 (h * 65536) l = h * 65536 + l := by
  obtain ⟨x, rfl⟩ : ∃ n : Nat, h = n := ⟨h.toNat, by omega⟩
  obtain ⟨y, rfl⟩ : ∃ n : Nat, l = n := ⟨l.toNat, by omega⟩
  have e : (x : Int) * 65536 = ((2 ^ 16 * x : Nat) : Int) := by omega
  rw [e]
  show IntKind.u32.wrap (((BitVec.ofInt 32 ((2 ^ 16 * x : Nat) : Int) ||| BitVec.ofInt 32 (y : Int)).toNat : Nat) : Int) = _
  rw [BitVec.toNat_or, BitVec.toNat_ofInt, BitVec.toNat_ofInt, IntKind.wrap_u32]
  have ex : (((2 ^ 16 * x : Nat) : Int) % ((2 ^ 32 : Nat) : Int)).toNat = 2 ^ 16 * x := by rw [show (2 : Nat) ^ 32 = 4294967296 from rfl, show (2 : Nat) ^ 16 = 65536 from rfl]; omega
  have ey : ((y : Int) % ((2 ^ 32 : Nat) : Int)).toNat = y := by rw [show (2 : Nat) ^ 32 = 4294967296 from rfl]; omega
  rw [ex, ey, ← Nat.two_pow_add_eq_or_of_lt (by rw [show (2 : Nat) ^ 16 = 65536 from rfl]; omega)]
  rw [show (2 : Nat) ^ 16 = 65536 from rfl]
  omega
end Go.Proofs.Ythhlmliejppdoaa.S
