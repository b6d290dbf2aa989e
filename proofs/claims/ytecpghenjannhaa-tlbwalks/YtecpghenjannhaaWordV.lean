/-
  Plain mathematics of layer 1 (word): what each function of the program answers, as functions of whole numbers.
  Conditions: none; nothing here speaks of the program.
-/
import Derived.WalkKit
namespace Go.Proofs.Ytecpghenjannhaa.W
open Go Go.RowKit

/-- The program's Sext. -/
def sextV (x n : Int) : Int :=
  if n < 1 ∨ 63 < n then x else IntKind.u64.wrap (wrap64 (IntKind.u64.wrap (x * 2 ^ (64 - n).toNat)) / 2 ^ (64 - n).toNat)
/-- The program's Shift. -/
def shiftV (x b k : Int) : Int :=
  if k = 0 then IntKind.u64.wrap (x * 2 ^ (b % 64).toNat) else if k = 1 then x / 2 ^ (b % 64).toNat
  else if k = 2 then IntKind.u64.wrap (wrap64 x / 2 ^ (b % 64).toNat) else x
def quoS (a b : Int) : Int := if b = 0 then -1 else wrap64 (a.tdiv b)
def quoU (a b : Int) : Int := if b = 0 then 18446744073709551615 else a / b
def quoS32 (a b : Int) : Int := if b = 0 then -1 else wrap32 (a.tdiv b)
def quoU32 (a b : Int) : Int := if b = 0 then 4294967295 else a / b
def remS (a b : Int) : Int := if b = 0 then a else a.tmod b
def remU (a b : Int) : Int := if b = 0 then a else a % b
def divV (a b : Int) (s : Bool) : Int := if s = true then IntKind.u64.wrap (quoS (wrap64 a) (wrap64 b)) else quoU a b
def remV (a b : Int) (s : Bool) : Int := if s = true then IntKind.u64.wrap (remS (wrap64 a) (wrap64 b)) else remU a b
def div32V (a b : Int) (s : Bool) : Int :=
  if s = true then IntKind.u64.wrap (quoS32 (wrap32 a) (wrap32 b)) else sextV (quoU32 (a % 4294967296) (b % 4294967296)) 32
def rem32V (a b : Int) (s : Bool) : Int :=
  if s = true then IntKind.u64.wrap (remS (wrap32 a) (wrap32 b)) else sextV (remU (a % 4294967296) (b % 4294967296)) 32
/-- The program's High: the product's high half, less what a sign takes off. -/
def highV (a b : Int) (sa sb : Bool) : Int :=
  IntKind.u64.wrap (a * b / 18446744073709551616 - (if sa = true ∧ 9223372036854775808 ≤ a then b else 0) - (if sb = true ∧ 9223372036854775808 ≤ b then a else 0))

/-! ### Bounds, and small laws -/
theorem u64_eq (n : Int) : IntKind.u64.wrap n = n % 18446744073709551616 := IntKind.wrap_u64 n
theorem u32_eq (n : Int) : IntKind.u32.wrap n = n % 4294967296 := IntKind.wrap_u32' n
theorem u64_bd (n : Int) : 0 ≤ IntKind.u64.wrap n ∧ IntKind.u64.wrap n ≤ 18446744073709551615 := by rw [u64_eq]; omega
theorem u32_bd (n : Int) : 0 ≤ IntKind.u32.wrap n ∧ IntKind.u32.wrap n ≤ 4294967295 := by rw [u32_eq]; omega
theorem w64_bd (n : Int) : -9223372036854775808 ≤ wrap64 n ∧ wrap64 n ≤ 9223372036854775807 := by unfold wrap64; omega
theorem w32_bd (n : Int) : -2147483648 ≤ wrap32 n ∧ wrap32 n ≤ 2147483647 := by unfold wrap32; omega
theorem sextV_bd (x n : Int) (hx : 0 ≤ x ∧ x ≤ 18446744073709551615) : 0 ≤ sextV x n ∧ sextV x n ≤ 18446744073709551615 := by
  unfold sextV; split
  · exact hx
  · exact u64_bd _
theorem pow_pos' (k : Nat) : (0 : Int) < 2 ^ k := Int.pow_pos (by decide)
theorem div_bd (a p : Int) (ha : 0 ≤ a ∧ a ≤ 18446744073709551615) (hp : 0 < p) : 0 ≤ a / p ∧ a / p ≤ 18446744073709551615 :=
  ⟨Int.ediv_nonneg ha.1 (by omega), by have := Int.ediv_le_self p ha.1; omega⟩
theorem shiftV_bd (x b k : Int) (hx : 0 ≤ x ∧ x ≤ 18446744073709551615) : 0 ≤ shiftV x b k ∧ shiftV x b k ≤ 18446744073709551615 := by
  unfold shiftV; split
  · exact u64_bd _
  · split
    · exact div_bd _ _ hx (pow_pos' _)
    · split
      · exact u64_bd _
      · exact hx
theorem quoU_bd (a b : Int) (ha : 0 ≤ a ∧ a ≤ 18446744073709551615) (hb : 0 ≤ b) : 0 ≤ quoU a b ∧ quoU a b ≤ 18446744073709551615 := by
  unfold quoU; split
  · omega
  · exact div_bd _ _ ha (by omega)
theorem remU_bd (a b : Int) (ha : 0 ≤ a ∧ a ≤ 18446744073709551615) (hb : 0 ≤ b) : 0 ≤ remU a b ∧ remU a b ≤ 18446744073709551615 := by
  unfold remU; split
  · exact ha
  · have h1 := Int.emod_nonneg a (b := b) (by omega)
    have h2 : a % b ≤ a := by
      have := Int.ediv_nonneg ha.1 hb
      have e := Int.mul_ediv_add_emod a b
      have := Int.mul_nonneg hb this
      omega
    omega
theorem divV_bd (a b : Int) (s : Bool) (ha : 0 ≤ a ∧ a ≤ 18446744073709551615) (hb : 0 ≤ b) : 0 ≤ divV a b s ∧ divV a b s ≤ 18446744073709551615 := by
  unfold divV; split
  · exact u64_bd _
  · exact quoU_bd a b ha hb
theorem remV_bd (a b : Int) (s : Bool) (ha : 0 ≤ a ∧ a ≤ 18446744073709551615) (hb : 0 ≤ b) : 0 ≤ remV a b s ∧ remV a b s ≤ 18446744073709551615 := by
  unfold remV; split
  · exact u64_bd _
  · exact remU_bd a b ha hb
theorem quoU32_bd (a b : Int) (ha : 0 ≤ a ∧ a ≤ 4294967295) (hb : 0 ≤ b) : 0 ≤ quoU32 a b ∧ quoU32 a b ≤ 4294967295 := by
  unfold quoU32; split
  · omega
  · exact ⟨Int.ediv_nonneg ha.1 (by omega), by have := Int.ediv_le_self b ha.1; omega⟩
theorem remU32_bd (a b : Int) (ha : 0 ≤ a ∧ a ≤ 4294967295) (hb : 0 ≤ b) : 0 ≤ remU a b ∧ remU a b ≤ 4294967295 := by
  unfold remU; split
  · exact ha
  · have h1 := Int.emod_nonneg a (b := b) (by omega)
    have h2 : a % b ≤ a := by
      have := Int.ediv_nonneg ha.1 hb
      have e := Int.mul_ediv_add_emod a b
      have := Int.mul_nonneg hb this
      omega
    omega
theorem div32V_bd (a b : Int) (s : Bool) : 0 ≤ div32V a b s ∧ div32V a b s ≤ 18446744073709551615 := by
  unfold div32V; split
  · exact u64_bd _
  · have h1 : 0 ≤ a % 4294967296 ∧ a % 4294967296 ≤ 4294967295 := by omega
    have h2 : 0 ≤ b % 4294967296 ∧ b % 4294967296 ≤ 4294967295 := by omega
    have := quoU32_bd (a % 4294967296) (b % 4294967296) h1 h2.1
    exact sextV_bd _ _ (by omega)
theorem rem32V_bd (a b : Int) (s : Bool) : 0 ≤ rem32V a b s ∧ rem32V a b s ≤ 18446744073709551615 := by
  unfold rem32V; split
  · exact u64_bd _
  · have h1 : 0 ≤ a % 4294967296 ∧ a % 4294967296 ≤ 4294967295 := by omega
    have h2 : 0 ≤ b % 4294967296 ∧ b % 4294967296 ≤ 4294967295 := by omega
    have := remU32_bd (a % 4294967296) (b % 4294967296) h1 h2.1
    exact sextV_bd _ _ (by omega)
theorem highV_bd (a b : Int) (sa sb : Bool) : 0 ≤ highV a b sa sb ∧ highV a b sa sb ≤ 18446744073709551615 := u64_bd _

/-! ### The high half of a product, by halves of 32 bits -/
theorem and_low (z : Int) (hz : 0 ≤ z ∧ z ≤ 18446744073709551615) : bits .and .u64 z 4294967295 = z % 4294967296 := by
  rw [u64_and _ _ hz.1 (by omega) (by omega) (by omega)]
  rw [show (4294967295 : Int).toNat = 4294967295 from rfl, nat_mask32]
  omega
theorem and_all (z : Int) (hz : 0 ≤ z ∧ z ≤ 18446744073709551615) : bits .and .u64 z 18446744073709551615 = z := by
  rw [u64_and _ _ hz.1 (by omega) (by omega) (by omega)]
  rw [show (18446744073709551615 : Int).toNat = 18446744073709551615 from rfl, Nat.and_two_pow_sub_one_eq_mod _ 64]
  omega
theorem mul_le32 (x y : Int) (hx : 0 ≤ x ∧ x ≤ 4294967295) (hy : 0 ≤ y ∧ y ≤ 4294967295) : 0 ≤ x * y ∧ x * y ≤ 18446744065119617025 :=
  ⟨Int.mul_nonneg hx.1 hy.1, by have := Int.mul_le_mul hx.2 hy.2 hy.1 (by omega : (0 : Int) ≤ 4294967295); omega⟩
theorem mul_parts (x1 x0 y1 y0 : Int) : (x1 * 4294967296 + x0) * (y1 * 4294967296 + y0) = x1 * y1 * 18446744073709551616 + (x1 * y0 + x0 * y1) * 4294967296 + x0 * y0 := by
  rw [Int.add_mul, Int.mul_add, Int.mul_add]
  have e1 : x1 * 4294967296 * (y1 * 4294967296) = x1 * y1 * 18446744073709551616 := by
    rw [Int.mul_assoc, ← Int.mul_assoc 4294967296 y1, Int.mul_comm 4294967296 y1, Int.mul_assoc y1, ← Int.mul_assoc x1]; rfl
  have e2 : x1 * 4294967296 * y0 = x1 * y0 * 4294967296 := by rw [Int.mul_assoc, Int.mul_comm 4294967296 y0, ← Int.mul_assoc]
  have e3 : x0 * (y1 * 4294967296) = x0 * y1 * 4294967296 := by rw [← Int.mul_assoc]
  rw [e1, e2, e3]; omega
theorem w64_def (a : Int) : wrap64 a = (a + 9223372036854775808) % 18446744073709551616 - 9223372036854775808 := by unfold wrap64; rfl
theorem w32_def (a : Int) : wrap32 a = (a + 2147483648) % 4294967296 - 2147483648 := by unfold wrap32; rfl
theorem mul_le64 (a b : Int) (ha : 0 ≤ a ∧ a ≤ 18446744073709551615) (hb : 0 ≤ b ∧ b ≤ 18446744073709551615) : 0 ≤ a * b ∧ a * b ≤ 340282366920938463426481119284349108225 :=
  ⟨Int.mul_nonneg ha.1 hb.1, by have := Int.mul_le_mul ha.2 hb.2 hb.1 (by omega : (0 : Int) ≤ 18446744073709551615); omega⟩
theorem hi_bd (a b : Int) (ha : 0 ≤ a ∧ a ≤ 18446744073709551615) (hb : 0 ≤ b ∧ b ≤ 18446744073709551615) : 0 ≤ a * b / 18446744073709551616 ∧ a * b / 18446744073709551616 ≤ 18446744073709551614 := by
  have := mul_le64 a b ha hb
  omega
theorem mul_hi (a b : Int) (ha : 0 ≤ a ∧ a ≤ 18446744073709551615) (hb : 0 ≤ b ∧ b ≤ 18446744073709551615) :
    IntKind.u64.wrap
              (IntKind.u64.wrap
                  (IntKind.u64.wrap (a / 4294967296 * (b / 4294967296)) +
                    IntKind.u64.wrap
                        (IntKind.u64.wrap (a / 4294967296 * bits BinOp.and IntKind.u64 b 4294967295) +
                          IntKind.u64.wrap
                              (bits BinOp.and IntKind.u64 a 4294967295 * bits BinOp.and IntKind.u64 b 4294967295) /
                            4294967296) /
                      4294967296) +
                IntKind.u64.wrap
                    (bits BinOp.and IntKind.u64
                        (IntKind.u64.wrap
                          (IntKind.u64.wrap (a / 4294967296 * bits BinOp.and IntKind.u64 b 4294967295) +
                            IntKind.u64.wrap
                                (bits BinOp.and IntKind.u64 a 4294967295 * bits BinOp.and IntKind.u64 b 4294967295) /
                              4294967296))
                        4294967295 +
                      IntKind.u64.wrap (bits BinOp.and IntKind.u64 a 4294967295 * (b / 4294967296))) /
                  4294967296) = a * b / 18446744073709551616 := by
  rw [and_low a ha, and_low b hb]
  have h00 := mul_le32 (a % 4294967296) (b % 4294967296) (by omega) (by omega)
  have h10 := mul_le32 (a / 4294967296) (b % 4294967296) (by omega) (by omega)
  have h01 := mul_le32 (a % 4294967296) (b / 4294967296) (by omega) (by omega)
  have h11 := mul_le32 (a / 4294967296) (b / 4294967296) (by omega) (by omega)
  have hab := mul_parts (a / 4294967296) (a % 4294967296) (b / 4294967296) (b % 4294967296)
  rw [show a / 4294967296 * 4294967296 + a % 4294967296 = a from by omega, show b / 4294967296 * 4294967296 + b % 4294967296 = b from by omega] at hab
  rw [hab]
  generalize a % 4294967296 * (b % 4294967296) = p00 at *
  generalize a / 4294967296 * (b % 4294967296) = p10 at *
  generalize a % 4294967296 * (b / 4294967296) = p01 at *
  generalize a / 4294967296 * (b / 4294967296) = p11 at *
  clear hab
  simp only [u64_eq]
  rw [Int.emod_eq_of_lt h00.1 (by omega), Int.emod_eq_of_lt h10.1 (by omega), Int.emod_eq_of_lt h01.1 (by omega), Int.emod_eq_of_lt h11.1 (by omega)]
  rw [Int.emod_eq_of_lt (a := p10 + p00 / 4294967296) (by omega) (by omega)]
  rw [and_low _ (by omega)]
  omega
end Go.Proofs.Ytecpghenjannhaa.W
