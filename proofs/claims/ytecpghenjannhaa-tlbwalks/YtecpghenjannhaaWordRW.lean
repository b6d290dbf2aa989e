/-
  Plain mathematics of the document's own answers for layer 1, on: signs, 32 bits, shifts.
  Conditions: the numbers are of 64 bits.
-/
import Derived.Test.YtecpghenjannhaaWordRV
namespace Go.Proofs.Ytecpghenjannhaa.W
open Go Go.RowKit
set_option linter.unusedVariables false

/-- A number without its sign. -/
def sizeV (x : Int) : Int := if 9223372036854775808 ≤ x then 18446744073709551616 - x else x
theorem sizeV_bd (x : Int) (hx : 0 ≤ x ∧ x ≤ 18446744073709551615) : 0 ≤ sizeV x ∧ sizeV x ≤ 9223372036854775808 ∧ (0 < x → 0 < sizeV x) := by
  unfold sizeV; split <;> omega
theorem sizeV_sg (x : Int) (hx : 0 ≤ x ∧ x ≤ 18446744073709551615) : wrap64 x = if 9223372036854775808 ≤ x then -sizeV x else sizeV x := by
  unfold sizeV; rw [w64_def]; split <;> omega
theorem u64_w64 (z : Int) : IntKind.u64.wrap (wrap64 z) = IntKind.u64.wrap z := by rw [u64_eq, u64_eq, w64_def]; omega
theorem w64_zero (b : Int) (hb : 0 ≤ b ∧ b ≤ 18446744073709551615) (h : 0 < b) : wrap64 b ≠ 0 := by rw [w64_def]; omega

theorem divS_eq (a b : Int) (ha : 0 ≤ a ∧ a ≤ 18446744073709551615) (hb : 0 ≤ b ∧ b ≤ 18446744073709551615) (h : 0 < b) :
    divV a b true = if (9223372036854775808 ≤ a ↔ 9223372036854775808 ≤ b) then sizeV a / sizeV b else IntKind.u64.wrap (-(sizeV a / sizeV b)) := by
  have sa := sizeV_bd a ha
  have sb := sizeV_bd b hb
  have hq : 0 ≤ sizeV a / sizeV b ∧ sizeV a / sizeV b ≤ 9223372036854775808 :=
    ⟨Int.ediv_nonneg sa.1 sb.1, by have := Int.ediv_le_self (sizeV b) sa.1; omega⟩
  simp only [divV, if_true, quoS]
  rw [if_neg (w64_zero b hb h), u64_w64, sizeV_sg a ha, sizeV_sg b hb]
  have t := Int.tdiv_eq_ediv_of_nonneg sa.1 (b := sizeV b)
  by_cases na : 9223372036854775808 ≤ a <;> by_cases nb : 9223372036854775808 ≤ b
  · rw [if_pos na, if_pos nb, if_pos ⟨fun _ => nb, fun _ => na⟩, Int.neg_tdiv, Int.tdiv_neg, Int.neg_neg, t, u64_eq]; omega
  · rw [if_pos na, if_neg nb, if_neg (fun x => nb (x.1 na)), Int.neg_tdiv, t]
  · rw [if_neg na, if_pos nb, if_neg (fun x => na (x.2 nb)), Int.tdiv_neg, t]
  · rw [if_neg na, if_neg nb, if_pos ⟨fun x => absurd x na, fun x => absurd x nb⟩, t, u64_eq]; omega

theorem remS_eq (a b : Int) (ha : 0 ≤ a ∧ a ≤ 18446744073709551615) (hb : 0 ≤ b ∧ b ≤ 18446744073709551615) (h : 0 < b) :
    remV a b true = if 9223372036854775808 ≤ a then IntKind.u64.wrap (-(sizeV a % sizeV b)) else sizeV a % sizeV b := by
  have sa := sizeV_bd a ha
  have sb := sizeV_bd b hb
  have hr : 0 ≤ sizeV a % sizeV b ∧ sizeV a % sizeV b ≤ 9223372036854775808 :=
    ⟨Int.emod_nonneg _ (by omega), by have := Int.emod_lt_of_pos (sizeV a) (b := sizeV b) (by omega); omega⟩
  simp only [remV, if_true, remS]
  rw [if_neg (w64_zero b hb h), sizeV_sg a ha, sizeV_sg b hb]
  have t := Int.tmod_eq_emod_of_nonneg sa.1 (b := sizeV b)
  by_cases na : 9223372036854775808 ≤ a <;> by_cases nb : 9223372036854775808 ≤ b
  · rw [if_pos na, if_pos nb, if_pos na, Int.neg_tmod, Int.tmod_neg, t]
  · rw [if_pos na, if_neg nb, if_pos na, Int.neg_tmod, t]
  · rw [if_neg na, if_pos nb, if_neg na, Int.tmod_neg, t, u64_eq]; omega
  · rw [if_neg na, if_neg nb, if_neg na, t, u64_eq]; omega

/-- A number of 32 bits, as the document has it. -/
def halfV (x : Int) (s : Bool) : Int := if s = true then sextV x 32 else x % 4294967296
theorem halfV_bd (x : Int) (s : Bool) (hx : 0 ≤ x ∧ x ≤ 18446744073709551615) : 0 ≤ halfV x s ∧ halfV x s ≤ 18446744073709551615 := by
  unfold halfV; split
  · exact sextV_bd _ _ hx
  · omega
theorem w64_half (x : Int) : wrap64 (sextV x 32) = wrap32 x := by
  rw [sextV_32, u64_eq, w64_def, w32_def]; omega
theorem w32_u64 (z : Int) : wrap32 (IntKind.u64.wrap z) = wrap32 z := by rw [u64_eq, w32_def, w32_def]; omega
theorem w32_w64 (z : Int) : wrap32 (wrap64 z) = wrap32 z := by rw [w64_def, w32_def, w32_def]; omega
theorem div32_eq (a b : Int) (s : Bool) : sextV (divV (halfV a s) (halfV b s) s) 32 = div32V a b s := by
  cases s
  · simp only [halfV, divV, div32V, Bool.false_eq_true, if_false]
    apply sextV_cong
    unfold quoU quoU32
    split <;> rfl
  · simp only [halfV, divV, div32V, if_true]
    rw [w64_half, w64_half, sextV_32, w32_u64]
    congr 1
    unfold quoS quoS32
    split
    · rw [w32_def]; rfl
    · exact w32_w64 _
theorem rem32_eq (a b : Int) (s : Bool) : sextV (remV (halfV a s) (halfV b s) s) 32 = rem32V a b s := by
  cases s
  · simp only [halfV, remV, rem32V, Bool.false_eq_true, if_false]
  · simp only [halfV, remV, rem32V, if_true]
    rw [w64_half, w64_half, sextV_32, w32_u64]
    congr 1
    have ha := w32_bd a
    have h : -2147483648 ≤ remS (wrap32 a) (wrap32 b) ∧ remS (wrap32 a) (wrap32 b) ≤ 2147483647 := by
      unfold remS; split
      · exact ha
      · have := tmod_small (wrap32 a) (wrap32 b) (by omega); omega
    rw [w32_def]; omega

/-! ### Shifts one by one -/
theorem and63i (b : Int) : bits .and .i64 b 63 = b % 64 := by
  show IntKind.i64.wrap ((BitVec.ofInt 64 b &&& BitVec.ofInt 64 63).toNat : Int) = _
  rw [BitVec.toNat_and, show (BitVec.ofInt 64 63).toNat = 63 from rfl, nat_mask6, BitVec.toNat_ofInt, IntKind.wrap_i64]
  rw [show (2 : Nat) ^ 64 = 18446744073709551616 from rfl]
  omega
theorem shiftV_zero (x k : Int) (hx : 0 ≤ x ∧ x ≤ 18446744073709551615) : shiftV x 0 k = x := by
  unfold shiftV
  rw [show ((0 : Int) % 64).toNat = 0 from rfl, Int.pow_zero, Int.mul_one, Int.ediv_one, Int.ediv_one, u64_eq, u64_eq, w64_def]
  (repeat' split) <;> omega
theorem shiftV_one0 (y : Int) : shiftV y 1 0 = IntKind.u64.wrap (y * 2) := by
  simp only [shiftV, if_true]; rfl
theorem shiftV_one1 (y : Int) : shiftV y 1 1 = y / 2 := by
  simp only [shiftV, if_true, if_neg (show ¬ (1 : Int) = 0 from by decide)]; rfl
theorem shiftV_one2 (y : Int) (hy : 0 ≤ y ∧ y ≤ 18446744073709551615) : shiftV y 1 2 = y / 2 + y / 9223372036854775808 * 9223372036854775808 := by
  simp only [shiftV, if_true, if_neg (show ¬ (2 : Int) = 0 from by decide), if_neg (show ¬ (2 : Int) = 1 from by decide)]
  rw [show (2 : Int) ^ ((1 : Int) % 64).toNat = 2 from rfl, u64_eq, w64_def]; omega
theorem shiftV_else (y b k : Int) (h0 : k ≠ 0) (h1 : k ≠ 1) (h2 : k ≠ 2) : shiftV y b k = y := by
  simp only [shiftV, if_neg h0, if_neg h1, if_neg h2]
theorem shiftV_at (x b k : Int) : shiftV x (b % 64) k = shiftV x b k := by
  unfold shiftV; rw [show b % 64 % 64 = b % 64 from by omega]
end Go.Proofs.Ytecpghenjannhaa.W
