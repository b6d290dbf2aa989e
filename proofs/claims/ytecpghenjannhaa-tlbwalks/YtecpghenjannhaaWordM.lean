/-
  Plain mathematics of layer 1's statements: what is divided is what comes of it times the other, and the rest; products' halves; shifts.
  Conditions: the numbers are of 64 bits.
-/
import Derived.Test.YtecpghenjannhaaWordV
namespace Go.Proofs.Ytecpghenjannhaa.W
open Go Go.RowKit
set_option linter.unusedVariables false

theorem c_mul (x y : Int) : x % 18446744073709551616 * y % 18446744073709551616 = x * y % 18446744073709551616 := by
  rw [Int.mul_emod, Int.emod_emod_of_dvd _ (Int.dvd_refl _), ← Int.mul_emod]
theorem c_mul' (x y : Int) : x * (y % 18446744073709551616) % 18446744073709551616 = x * y % 18446744073709551616 := by
  rw [Int.mul_comm, c_mul, Int.mul_comm]
theorem c_w64 (x : Int) : wrap64 x % 18446744073709551616 = x % 18446744073709551616 := by rw [w64_def]; omega
theorem c_mulw (x y : Int) : x * wrap64 y % 18446744073709551616 = x * y % 18446744073709551616 := by
  rw [← c_mul', c_w64, c_mul']
theorem c_add (x y : Int) : (x % 18446744073709551616 + y % 18446744073709551616) % 18446744073709551616 = (x + y) % 18446744073709551616 := by omega

theorem divU_back (a b : Int) (ha : 0 ≤ a ∧ a ≤ 18446744073709551615) (hb : 0 ≤ b ∧ b ≤ 18446744073709551615) :
    IntKind.u64.wrap (IntKind.u64.wrap (divV a b false * b) + remV a b false) = a := by
  simp only [divV, remV, Bool.false_eq_true, if_false, u64_eq, quoU, remU]
  split
  · rename_i h; subst h; omega
  · have e := Int.mul_ediv_add_emod a b
    rw [Int.mul_comm] at e
    have h1 : 0 ≤ a / b * b := Int.mul_nonneg (Int.ediv_nonneg ha.1 hb.1) hb.1
    have h2 := Int.emod_nonneg a (b := b) (by omega)
    generalize a / b * b = p at *
    generalize a % b = r at *
    omega

theorem divS_back (a b : Int) (ha : 0 ≤ a ∧ a ≤ 18446744073709551615) (hb : 0 ≤ b ∧ b ≤ 18446744073709551615) :
    IntKind.u64.wrap (IntKind.u64.wrap (divV a b true * b) + remV a b true) = a := by
  simp only [divV, remV, if_true, u64_eq]
  rw [c_mul, c_add]
  have wa := w64_def a
  by_cases h : wrap64 b = 0
  · have hb0 : b = 0 := by rw [w64_def] at h; omega
    simp only [quoS, remS, h, if_true]
    subst hb0
    omega
  · simp only [quoS, remS, h, if_false]
    have e := Int.mul_tdiv_add_tmod (wrap64 a) (wrap64 b)
    have k : wrap64 ((wrap64 a).tdiv (wrap64 b)) * b % 18446744073709551616 = wrap64 b * (wrap64 a).tdiv (wrap64 b) % 18446744073709551616 := by
      rw [← c_mul, c_w64, c_mul, ← c_mulw, Int.mul_comm]
    generalize wrap64 b * (wrap64 a).tdiv (wrap64 b) = p at *
    generalize (wrap64 a).tmod (wrap64 b) = r at *
    generalize wrap64 ((wrap64 a).tdiv (wrap64 b)) * b = z at *
    omega

theorem div_by_0 (a : Int) (ha : 0 ≤ a ∧ a ≤ 18446744073709551615) :
    divV a 0 false = 18446744073709551615 ∧ remV a 0 false = a ∧ divV a 0 true = 18446744073709551615 ∧ remV a 0 true = a := by
  have w0 : wrap64 0 = 0 := by rw [w64_def]; rfl
  have wa := w64_def a
  refine ⟨rfl, rfl, ?_, ?_⟩
  · simp only [divV, quoS, w0, if_true]; rfl
  · simp only [remV, remS, w0, if_true, u64_eq]; omega

theorem remU_less (a b : Int) (h : 0 < b) : remV a b false < b := by
  simp only [remV, Bool.false_eq_true, if_false, remU]
  rw [if_neg (by omega)]
  exact Int.emod_lt_of_pos _ h

theorem tmod_small (x y : Int) (hx : -9223372036854775808 ≤ x ∧ x ≤ 9223372036854775807) :
    (0 ≤ x → 0 ≤ x.tmod y ∧ x.tmod y ≤ x) ∧ (x < 0 → x ≤ x.tmod y ∧ x.tmod y ≤ 0) := by
  constructor
  · intro h
    rw [Int.tmod_eq_emod_of_nonneg h]
    constructor
    · by_cases hy : y = 0
      · subst hy; rw [Int.emod_zero]; exact h
      · exact Int.emod_nonneg _ hy
    · by_cases hy : y = 0
      · subst hy; rw [Int.emod_zero]; omega
      · have e := Int.mul_ediv_add_emod x y
        have : 0 ≤ y * (x / y) := by
          by_cases hp : 0 < y
          · exact Int.mul_nonneg (by omega) (Int.ediv_nonneg h (by omega))
          · have := Int.ediv_nonpos_of_nonneg_of_nonpos (a := x) (b := y) h (by omega)
            have := Int.mul_nonneg_of_nonpos_of_nonpos (a := y) (b := x / y) (by omega) this
            exact this
        omega
  · intro h
    have e := Int.neg_tmod x y
    have hn : 0 ≤ -x := by omega
    have h1 : (-x).tmod y = (-x) % y := Int.tmod_eq_emod_of_nonneg hn
    have h2 : 0 ≤ (-x).tmod y ∧ (-x).tmod y ≤ -x := by
      rw [h1]
      constructor
      · by_cases hy : y = 0
        · subst hy; rw [Int.emod_zero]; exact hn
        · exact Int.emod_nonneg _ hy
      · by_cases hy : y = 0
        · subst hy; rw [Int.emod_zero]; omega
        · have e := Int.mul_ediv_add_emod (-x) y
          have : 0 ≤ y * ((-x) / y) := by
            by_cases hp : 0 < y
            · exact Int.mul_nonneg (by omega) (Int.ediv_nonneg hn (by omega))
            · have := Int.ediv_nonpos_of_nonneg_of_nonpos (a := -x) (b := y) hn (by omega)
              have := Int.mul_nonneg_of_nonpos_of_nonpos (a := y) (b := (-x) / y) (by omega) this
              exact this
          omega
    omega

theorem remS_sign (a b : Int) (ha : 0 ≤ a ∧ a ≤ 18446744073709551615) (hb : 0 < b) (hb2 : b ≤ 18446744073709551615) (h : remV a b true ≠ 0) :
    remV a b true / 9223372036854775808 = a / 9223372036854775808 := by
  simp only [remV, if_true, u64_eq, remS] at *
  have wa := w64_def a
  have wb := w64_def b
  rw [if_neg (by omega)] at *
  have t := tmod_small (wrap64 a) (wrap64 b) (by omega)
  generalize (wrap64 a).tmod (wrap64 b) = r at *
  omega

/-! ### High halves -/
theorem highV_comm (a b : Int) (sa sb : Bool) : highV b a sb sa = highV a b sa sb := by
  unfold highV
  rw [Int.mul_comm b a]
  congr 1
  omega
/-- One more: what a product's high half becomes. -/
theorem highV_next (a b : Int) (sa sb : Bool) (ha : 0 ≤ a ∧ a ≤ 18446744073709551615) (hb : 0 ≤ b ∧ b ≤ 18446744073709551614) (hb' : b ≠ 9223372036854775807) :
    highV a (b + 1) sa sb = (highV a b sa sb + (if IntKind.u64.wrap (IntKind.u64.wrap (a * b) + a) < IntKind.u64.wrap (a * b) then 1 else 0)
      - (if sa = true ∧ 9223372036854775808 ≤ a then 1 else 0)) % 18446744073709551616 := by
  unfold highV
  simp only [u64_eq]
  rw [Int.mul_add, Int.mul_one]
  have hm := mul_le64 a b ha (by omega)
  generalize a * b = p at *
  have e1 : (9223372036854775808 ≤ b + 1) ↔ 9223372036854775808 ≤ b := by omega
  simp only [e1]
  by_cases h1 : sa = true ∧ 9223372036854775808 ≤ a <;> by_cases h2 : sb = true ∧ 9223372036854775808 ≤ b <;> simp only [h1, h2, if_true, if_false, and_self] <;> split <;> omega
end Go.Proofs.Ytecpghenjannhaa.W
