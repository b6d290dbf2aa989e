/-
  Plain mathematics of layer 1 (word): what each function of the program answers, as functions of whole numbers.
  Plain mathematics of layer 1's statements: what is divided is what comes of it times the other, and the rest; products' halves; shifts.
  Plain mathematics of layer 1's statements, on: what Sext is by its bits; what is divided of 32 bits.
  Plain mathematics of layer 1's statements, on: shifts.
  Plain mathematics of layer 1's statements, on: the bits of a number whose sign was extended.
  Plain mathematics of the document's own answers for layer 1: products by adding, division by taking away, shifts one by one; each is the program's.
  Plain mathematics of the document's own answers for layer 1, on: signs, 32 bits, shifts.
  The kind of an op as a plain function: the ranges of the document's kinds.
  Plain mathematics of layer 7 (alu): what two numbers become by an op, as functions of whole numbers.
  Plain mathematics on: what the statements of layer 7 say of two numbers.
  Conditions: each part's own: the arguments are numbers of their kinds; the tables hold what the program's text lays.
-/
import Derived.WalkKit
section
namespace Go.Proofs.Ytgcjefgblodfmaa.W
open Go Go.RowKit

/-- The program's Sext. -/
def sextV (x n : Int) : Int :=
  if n < 1 ∨ 63 < n then x else IntKind.u64.wrap (wrap64 (IntKind.u64.wrap (x * 2 ^ (64 - n).toNat)) / 2 ^ (64 - n).toNat)
/-- The program's Shift. -/
def shiftV (x b k : Int) : Int :=
  if k = 0 then IntKind.u64.wrap (x * 2 ^ (b % 64).toNat) else if k = 1 then x / 2 ^ (b % 64).toNat
  else if k = 2 then IntKind.u64.wrap (wrap64 x / 2 ^ (b % 64).toNat) else x
def quoS (a b : Int) : Int := if b = 0 then -1 else wrap64 (a.tdiv b)
def quoU (a b : Int) : Int := if b = 0 then 18446744073709551615 else a / b
def quoS32 (a b : Int) : Int := if b = 0 then -1 else wrap32 (a.tdiv b)
def quoU32 (a b : Int) : Int := if b = 0 then 4294967295 else a / b
def remS (a b : Int) : Int := if b = 0 then a else a.tmod b
def remU (a b : Int) : Int := if b = 0 then a else a % b
def divV (a b : Int) (s : Bool) : Int := if s = true then IntKind.u64.wrap (quoS (wrap64 a) (wrap64 b)) else quoU a b
def remV (a b : Int) (s : Bool) : Int := if s = true then IntKind.u64.wrap (remS (wrap64 a) (wrap64 b)) else remU a b
def div32V (a b : Int) (s : Bool) : Int :=
  if s = true then IntKind.u64.wrap (quoS32 (wrap32 a) (wrap32 b)) else sextV (quoU32 (a % 4294967296) (b % 4294967296)) 32
def rem32V (a b : Int) (s : Bool) : Int :=
  if s = true then IntKind.u64.wrap (remS (wrap32 a) (wrap32 b)) else sextV (remU (a % 4294967296) (b % 4294967296)) 32
/-- The program's High: the product's high half, less what a sign takes off. -/
def highV (a b : Int) (sa sb : Bool) : Int :=
  IntKind.u64.wrap (a * b / 18446744073709551616 - (if sa = true ∧ 9223372036854775808 ≤ a then b else 0) - (if sb = true ∧ 9223372036854775808 ≤ b then a else 0))

/-! ### Bounds, and small laws -/
theorem u64_eq (n : Int) : IntKind.u64.wrap n = n % 18446744073709551616 := IntKind.wrap_u64 n
theorem u32_eq (n : Int) : IntKind.u32.wrap n = n % 4294967296 := IntKind.wrap_u32' n
theorem u64_bd (n : Int) : 0 ≤ IntKind.u64.wrap n ∧ IntKind.u64.wrap n ≤ 18446744073709551615 := by rw [u64_eq]; omega
theorem u32_bd (n : Int) : 0 ≤ IntKind.u32.wrap n ∧ IntKind.u32.wrap n ≤ 4294967295 := by rw [u32_eq]; omega
theorem w64_bd (n : Int) : -9223372036854775808 ≤ wrap64 n ∧ wrap64 n ≤ 9223372036854775807 := by unfold wrap64; omega
theorem w32_bd (n : Int) : -2147483648 ≤ wrap32 n ∧ wrap32 n ≤ 2147483647 := by unfold wrap32; omega
theorem sextV_bd (x n : Int) (hx : 0 ≤ x ∧ x ≤ 18446744073709551615) : 0 ≤ sextV x n ∧ sextV x n ≤ 18446744073709551615 := by
  unfold sextV; split
  · exact hx
  · exact u64_bd _
theorem pow_pos' (k : Nat) : (0 : Int) < 2 ^ k := Int.pow_pos (by decide)
theorem div_bd (a p : Int) (ha : 0 ≤ a ∧ a ≤ 18446744073709551615) (hp : 0 < p) : 0 ≤ a / p ∧ a / p ≤ 18446744073709551615 :=
  ⟨Int.ediv_nonneg ha.1 (by omega), by have := Int.ediv_le_self p ha.1; omega⟩
theorem shiftV_bd (x b k : Int) (hx : 0 ≤ x ∧ x ≤ 18446744073709551615) : 0 ≤ shiftV x b k ∧ shiftV x b k ≤ 18446744073709551615 := by
  unfold shiftV; split
  · exact u64_bd _
  · split
    · exact div_bd _ _ hx (pow_pos' _)
    · split
      · exact u64_bd _
      · exact hx
theorem quoU_bd (a b : Int) (ha : 0 ≤ a ∧ a ≤ 18446744073709551615) (hb : 0 ≤ b) : 0 ≤ quoU a b ∧ quoU a b ≤ 18446744073709551615 := by
  unfold quoU; split
  · omega
  · exact div_bd _ _ ha (by omega)
theorem remU_bd (a b : Int) (ha : 0 ≤ a ∧ a ≤ 18446744073709551615) (hb : 0 ≤ b) : 0 ≤ remU a b ∧ remU a b ≤ 18446744073709551615 := by
  unfold remU; split
  · exact ha
  · have h1 := Int.emod_nonneg a (b := b) (by omega)
    have h2 : a % b ≤ a := by
      have := Int.ediv_nonneg ha.1 hb
      have e := Int.mul_ediv_add_emod a b
      have := Int.mul_nonneg hb this
      omega
    omega
theorem divV_bd (a b : Int) (s : Bool) (ha : 0 ≤ a ∧ a ≤ 18446744073709551615) (hb : 0 ≤ b) : 0 ≤ divV a b s ∧ divV a b s ≤ 18446744073709551615 := by
  unfold divV; split
  · exact u64_bd _
  · exact quoU_bd a b ha hb
theorem remV_bd (a b : Int) (s : Bool) (ha : 0 ≤ a ∧ a ≤ 18446744073709551615) (hb : 0 ≤ b) : 0 ≤ remV a b s ∧ remV a b s ≤ 18446744073709551615 := by
  unfold remV; split
  · exact u64_bd _
  · exact remU_bd a b ha hb
theorem quoU32_bd (a b : Int) (ha : 0 ≤ a ∧ a ≤ 4294967295) (hb : 0 ≤ b) : 0 ≤ quoU32 a b ∧ quoU32 a b ≤ 4294967295 := by
  unfold quoU32; split
  · omega
  · exact ⟨Int.ediv_nonneg ha.1 (by omega), by have := Int.ediv_le_self b ha.1; omega⟩
theorem remU32_bd (a b : Int) (ha : 0 ≤ a ∧ a ≤ 4294967295) (hb : 0 ≤ b) : 0 ≤ remU a b ∧ remU a b ≤ 4294967295 := by
  unfold remU; split
  · exact ha
  · have h1 := Int.emod_nonneg a (b := b) (by omega)
    have h2 : a % b ≤ a := by
      have := Int.ediv_nonneg ha.1 hb
      have e := Int.mul_ediv_add_emod a b
      have := Int.mul_nonneg hb this
      omega
    omega
theorem div32V_bd (a b : Int) (s : Bool) : 0 ≤ div32V a b s ∧ div32V a b s ≤ 18446744073709551615 := by
  unfold div32V; split
  · exact u64_bd _
  · have h1 : 0 ≤ a % 4294967296 ∧ a % 4294967296 ≤ 4294967295 := by omega
    have h2 : 0 ≤ b % 4294967296 ∧ b % 4294967296 ≤ 4294967295 := by omega
    have := quoU32_bd (a % 4294967296) (b % 4294967296) h1 h2.1
    exact sextV_bd _ _ (by omega)
theorem rem32V_bd (a b : Int) (s : Bool) : 0 ≤ rem32V a b s ∧ rem32V a b s ≤ 18446744073709551615 := by
  unfold rem32V; split
  · exact u64_bd _
  · have h1 : 0 ≤ a % 4294967296 ∧ a % 4294967296 ≤ 4294967295 := by omega
    have h2 : 0 ≤ b % 4294967296 ∧ b % 4294967296 ≤ 4294967295 := by omega
    have := remU32_bd (a % 4294967296) (b % 4294967296) h1 h2.1
    exact sextV_bd _ _ (by omega)
theorem highV_bd (a b : Int) (sa sb : Bool) : 0 ≤ highV a b sa sb ∧ highV a b sa sb ≤ 18446744073709551615 := u64_bd _

/-! ### The high half of a product, by halves of 32 bits -/
theorem and_low (z : Int) (hz : 0 ≤ z ∧ z ≤ 18446744073709551615) : bits .and .u64 z 4294967295 = z % 4294967296 := by
  rw [u64_and _ _ hz.1 (by omega) (by omega) (by omega)]
  rw [show (4294967295 : Int).toNat = 4294967295 from rfl, nat_mask32]
  omega
theorem and_all (z : Int) (hz : 0 ≤ z ∧ z ≤ 18446744073709551615) : bits .and .u64 z 18446744073709551615 = z := by
  rw [u64_and _ _ hz.1 (by omega) (by omega) (by omega)]
  rw [show (18446744073709551615 : Int).toNat = 18446744073709551615 from rfl, Nat.and_two_pow_sub_one_eq_mod _ 64]
  omega
theorem mul_le32 (x y : Int) (hx : 0 ≤ x ∧ x ≤ 4294967295) (hy : 0 ≤ y ∧ y ≤ 4294967295) : 0 ≤ x * y ∧ x * y ≤ 18446744065119617025 :=
  ⟨Int.mul_nonneg hx.1 hy.1, by have := Int.mul_le_mul hx.2 hy.2 hy.1 (by omega : (0 : Int) ≤ 4294967295); omega⟩
theorem mul_parts (x1 x0 y1 y0 : Int) : (x1 * 4294967296 + x0) * (y1 * 4294967296 + y0) = x1 * y1 * 18446744073709551616 + (x1 * y0 + x0 * y1) * 4294967296 + x0 * y0 := by
  rw [Int.add_mul, Int.mul_add, Int.mul_add]
  have e1 : x1 * 4294967296 * (y1 * 4294967296) = x1 * y1 * 18446744073709551616 := by
    rw [Int.mul_assoc, ← Int.mul_assoc 4294967296 y1, Int.mul_comm 4294967296 y1, Int.mul_assoc y1, ← Int.mul_assoc x1]; rfl
  have e2 : x1 * 4294967296 * y0 = x1 * y0 * 4294967296 := by rw [Int.mul_assoc, Int.mul_comm 4294967296 y0, ← Int.mul_assoc]
  have e3 : x0 * (y1 * 4294967296) = x0 * y1 * 4294967296 := by rw [← Int.mul_assoc]
  rw [e1, e2, e3]; omega
theorem w64_def (a : Int) : wrap64 a = (a + 9223372036854775808) % 18446744073709551616 - 9223372036854775808 := by unfold wrap64; rfl
theorem w32_def (a : Int) : wrap32 a = (a + 2147483648) % 4294967296 - 2147483648 := by unfold wrap32; rfl
theorem mul_le64 (a b : Int) (ha : 0 ≤ a ∧ a ≤ 18446744073709551615) (hb : 0 ≤ b ∧ b ≤ 18446744073709551615) : 0 ≤ a * b ∧ a * b ≤ 340282366920938463426481119284349108225 :=
  ⟨Int.mul_nonneg ha.1 hb.1, by have := Int.mul_le_mul ha.2 hb.2 hb.1 (by omega : (0 : Int) ≤ 18446744073709551615); omega⟩
theorem hi_bd (a b : Int) (ha : 0 ≤ a ∧ a ≤ 18446744073709551615) (hb : 0 ≤ b ∧ b ≤ 18446744073709551615) : 0 ≤ a * b / 18446744073709551616 ∧ a * b / 18446744073709551616 ≤ 18446744073709551614 := by
  have := mul_le64 a b ha hb
  omega
theorem mul_hi (a b : Int) (ha : 0 ≤ a ∧ a ≤ 18446744073709551615) (hb : 0 ≤ b ∧ b ≤ 18446744073709551615) :
    IntKind.u64.wrap
              (IntKind.u64.wrap
                  (IntKind.u64.wrap (a / 4294967296 * (b / 4294967296)) +
                    IntKind.u64.wrap
                        (IntKind.u64.wrap (a / 4294967296 * bits BinOp.and IntKind.u64 b 4294967295) +
                          IntKind.u64.wrap
                              (bits BinOp.and IntKind.u64 a 4294967295 * bits BinOp.and IntKind.u64 b 4294967295) /
                            4294967296) /
                      4294967296) +
                IntKind.u64.wrap
                    (bits BinOp.and IntKind.u64
                        (IntKind.u64.wrap
                          (IntKind.u64.wrap (a / 4294967296 * bits BinOp.and IntKind.u64 b 4294967295) +
                            IntKind.u64.wrap
                                (bits BinOp.and IntKind.u64 a 4294967295 * bits BinOp.and IntKind.u64 b 4294967295) /
                              4294967296))
                        4294967295 +
                      IntKind.u64.wrap (bits BinOp.and IntKind.u64 a 4294967295 * (b / 4294967296))) /
                  4294967296) = a * b / 18446744073709551616 := by
  rw [and_low a ha, and_low b hb]
  have h00 := mul_le32 (a % 4294967296) (b % 4294967296) (by omega) (by omega)
  have h10 := mul_le32 (a / 4294967296) (b % 4294967296) (by omega) (by omega)
  have h01 := mul_le32 (a % 4294967296) (b / 4294967296) (by omega) (by omega)
  have h11 := mul_le32 (a / 4294967296) (b / 4294967296) (by omega) (by omega)
  have hab := mul_parts (a / 4294967296) (a % 4294967296) (b / 4294967296) (b % 4294967296)
  rw [show a / 4294967296 * 4294967296 + a % 4294967296 = a from by omega, show b / 4294967296 * 4294967296 + b % 4294967296 = b from by omega] at hab
  rw [hab]
  generalize a % 4294967296 * (b % 4294967296) = p00 at *
  generalize a / 4294967296 * (b % 4294967296) = p10 at *
  generalize a % 4294967296 * (b / 4294967296) = p01 at *
  generalize a / 4294967296 * (b / 4294967296) = p11 at *
  clear hab
  simp only [u64_eq]
  rw [Int.emod_eq_of_lt h00.1 (by omega), Int.emod_eq_of_lt h10.1 (by omega), Int.emod_eq_of_lt h01.1 (by omega), Int.emod_eq_of_lt h11.1 (by omega)]
  rw [Int.emod_eq_of_lt (a := p10 + p00 / 4294967296) (by omega) (by omega)]
  rw [and_low _ (by omega)]
  omega
end Go.Proofs.Ytgcjefgblodfmaa.W
end

section
namespace Go.Proofs.Ytgcjefgblodfmaa.W
open Go Go.RowKit
set_option linter.unusedVariables false

theorem c_mul (x y : Int) : x % 18446744073709551616 * y % 18446744073709551616 = x * y % 18446744073709551616 := by
  rw [Int.mul_emod, Int.emod_emod_of_dvd _ (Int.dvd_refl _), ← Int.mul_emod]
theorem c_mul' (x y : Int) : x * (y % 18446744073709551616) % 18446744073709551616 = x * y % 18446744073709551616 := by
  rw [Int.mul_comm, c_mul, Int.mul_comm]
theorem c_w64 (x : Int) : wrap64 x % 18446744073709551616 = x % 18446744073709551616 := by rw [w64_def]; omega
theorem c_mulw (x y : Int) : x * wrap64 y % 18446744073709551616 = x * y % 18446744073709551616 := by
  rw [← c_mul', c_w64, c_mul']
theorem c_add (x y : Int) : (x % 18446744073709551616 + y % 18446744073709551616) % 18446744073709551616 = (x + y) % 18446744073709551616 := by omega

theorem divU_back (a b : Int) (ha : 0 ≤ a ∧ a ≤ 18446744073709551615) (hb : 0 ≤ b ∧ b ≤ 18446744073709551615) :
    IntKind.u64.wrap (IntKind.u64.wrap (divV a b false * b) + remV a b false) = a := by
  simp only [divV, remV, Bool.false_eq_true, if_false, u64_eq, quoU, remU]
  split
  · rename_i h; subst h; omega
  · have e := Int.mul_ediv_add_emod a b
    rw [Int.mul_comm] at e
    have h1 : 0 ≤ a / b * b := Int.mul_nonneg (Int.ediv_nonneg ha.1 hb.1) hb.1
    have h2 := Int.emod_nonneg a (b := b) (by omega)
    generalize a / b * b = p at *
    generalize a % b = r at *
    omega

theorem divS_back (a b : Int) (ha : 0 ≤ a ∧ a ≤ 18446744073709551615) (hb : 0 ≤ b ∧ b ≤ 18446744073709551615) :
    IntKind.u64.wrap (IntKind.u64.wrap (divV a b true * b) + remV a b true) = a := by
  simp only [divV, remV, if_true, u64_eq]
  rw [c_mul, c_add]
  have wa := w64_def a
  by_cases h : wrap64 b = 0
  · have hb0 : b = 0 := by rw [w64_def] at h; omega
    simp only [quoS, remS, h, if_true]
    subst hb0
    omega
  · simp only [quoS, remS, h, if_false]
    have e := Int.mul_tdiv_add_tmod (wrap64 a) (wrap64 b)
    have k : wrap64 ((wrap64 a).tdiv (wrap64 b)) * b % 18446744073709551616 = wrap64 b * (wrap64 a).tdiv (wrap64 b) % 18446744073709551616 := by
      rw [← c_mul, c_w64, c_mul, ← c_mulw, Int.mul_comm]
    generalize wrap64 b * (wrap64 a).tdiv (wrap64 b) = p at *
    generalize (wrap64 a).tmod (wrap64 b) = r at *
    generalize wrap64 ((wrap64 a).tdiv (wrap64 b)) * b = z at *
    omega

theorem div_by_0 (a : Int) (ha : 0 ≤ a ∧ a ≤ 18446744073709551615) :
    divV a 0 false = 18446744073709551615 ∧ remV a 0 false = a ∧ divV a 0 true = 18446744073709551615 ∧ remV a 0 true = a := by
  have w0 : wrap64 0 = 0 := by rw [w64_def]; rfl
  have wa := w64_def a
  refine ⟨rfl, rfl, ?_, ?_⟩
  · simp only [divV, quoS, w0, if_true]; rfl
  · simp only [remV, remS, w0, if_true, u64_eq]; omega

theorem remU_less (a b : Int) (h : 0 < b) : remV a b false < b := by
  simp only [remV, Bool.false_eq_true, if_false, remU]
  rw [if_neg (by omega)]
  exact Int.emod_lt_of_pos _ h

theorem tmod_small (x y : Int) (hx : -9223372036854775808 ≤ x ∧ x ≤ 9223372036854775807) :
    (0 ≤ x → 0 ≤ x.tmod y ∧ x.tmod y ≤ x) ∧ (x < 0 → x ≤ x.tmod y ∧ x.tmod y ≤ 0) := by
  constructor
  · intro h
    rw [Int.tmod_eq_emod_of_nonneg h]
    constructor
    · by_cases hy : y = 0
      · subst hy; rw [Int.emod_zero]; exact h
      · exact Int.emod_nonneg _ hy
    · by_cases hy : y = 0
      · subst hy; rw [Int.emod_zero]; omega
      · have e := Int.mul_ediv_add_emod x y
        have : 0 ≤ y * (x / y) := by
          by_cases hp : 0 < y
          · exact Int.mul_nonneg (by omega) (Int.ediv_nonneg h (by omega))
          · have := Int.ediv_nonpos_of_nonneg_of_nonpos (a := x) (b := y) h (by omega)
            have := Int.mul_nonneg_of_nonpos_of_nonpos (a := y) (b := x / y) (by omega) this
            exact this
        omega
  · intro h
    have e := Int.neg_tmod x y
    have hn : 0 ≤ -x := by omega
    have h1 : (-x).tmod y = (-x) % y := Int.tmod_eq_emod_of_nonneg hn
    have h2 : 0 ≤ (-x).tmod y ∧ (-x).tmod y ≤ -x := by
      rw [h1]
      constructor
      · by_cases hy : y = 0
        · subst hy; rw [Int.emod_zero]; exact hn
        · exact Int.emod_nonneg _ hy
      · by_cases hy : y = 0
        · subst hy; rw [Int.emod_zero]; omega
        · have e := Int.mul_ediv_add_emod (-x) y
          have : 0 ≤ y * ((-x) / y) := by
            by_cases hp : 0 < y
            · exact Int.mul_nonneg (by omega) (Int.ediv_nonneg hn (by omega))
            · have := Int.ediv_nonpos_of_nonneg_of_nonpos (a := -x) (b := y) hn (by omega)
              have := Int.mul_nonneg_of_nonpos_of_nonpos (a := y) (b := (-x) / y) (by omega) this
              exact this
          omega
    omega

theorem remS_sign (a b : Int) (ha : 0 ≤ a ∧ a ≤ 18446744073709551615) (hb : 0 < b) (hb2 : b ≤ 18446744073709551615) (h : remV a b true ≠ 0) :
    remV a b true / 9223372036854775808 = a / 9223372036854775808 := by
  simp only [remV, if_true, u64_eq, remS] at *
  have wa := w64_def a
  have wb := w64_def b
  rw [if_neg (by omega)] at *
  have t := tmod_small (wrap64 a) (wrap64 b) (by omega)
  generalize (wrap64 a).tmod (wrap64 b) = r at *
  omega

/-! ### High halves -/
theorem highV_comm (a b : Int) (sa sb : Bool) : highV b a sb sa = highV a b sa sb := by
  unfold highV
  rw [Int.mul_comm b a]
  congr 1
  omega
/-- One more: what a product's high half becomes. -/
theorem highV_next (a b : Int) (sa sb : Bool) (ha : 0 ≤ a ∧ a ≤ 18446744073709551615) (hb : 0 ≤ b ∧ b ≤ 18446744073709551614) (hb' : b ≠ 9223372036854775807) :
    highV a (b + 1) sa sb = (highV a b sa sb + (if IntKind.u64.wrap (IntKind.u64.wrap (a * b) + a) < IntKind.u64.wrap (a * b) then 1 else 0)
      - (if sa = true ∧ 9223372036854775808 ≤ a then 1 else 0)) % 18446744073709551616 := by
  unfold highV
  simp only [u64_eq]
  rw [Int.mul_add, Int.mul_one]
  have hm := mul_le64 a b ha (by omega)
  generalize a * b = p at *
  have e1 : (9223372036854775808 ≤ b + 1) ↔ 9223372036854775808 ≤ b := by omega
  simp only [e1]
  by_cases h1 : sa = true ∧ 9223372036854775808 ≤ a <;> by_cases h2 : sb = true ∧ 9223372036854775808 ≤ b <;> simp only [h1, h2, if_true, if_false, and_self] <;> split <;> omega
end Go.Proofs.Ytgcjefgblodfmaa.W
end

section
namespace Go.Proofs.Ytgcjefgblodfmaa.W
open Go Go.RowKit
set_option linter.unusedVariables false

/-- A sign, extended: by the number modulo 2^n. -/
theorem sextV_eq (x : Int) (n : Nat) (h1 : 1 ≤ n) (h2 : n ≤ 63) :
    sextV x (n : Int) = if x % 2 ^ n < 2 ^ (n - 1) then x % 2 ^ n else x % 2 ^ n - 2 ^ n + 18446744073709551616 := by
  obtain ⟨m, rfl⟩ : ∃ m, n = m + 1 := ⟨n - 1, by omega⟩
  unfold sextV
  rw [if_neg (by omega)]
  rw [show (64 - ((m + 1 : Nat) : Int)).toNat = 64 - (m + 1) from by omega]
  rw [show m + 1 - 1 = m from by omega]
  have hk : (2 : Int) ^ (64 - (m + 1)) * 2 ^ (m + 1) = 18446744073709551616 := by
    rw [← Int.pow_add, show 64 - (m + 1) + (m + 1) = 64 from by omega]; rfl
  have hm : (2 : Int) ^ (m + 1) = 2 * 2 ^ m := by rw [Int.pow_succ]; omega
  have hp := pow_pos' m
  have hkp := pow_pos' (64 - (m + 1))
  generalize (2 : Int) ^ (64 - (m + 1)) = k at *
  generalize (2 : Int) ^ (m + 1) = M at *
  generalize (2 : Int) ^ m = q at *
  have hMp : 0 < M := by omega
  rw [u64_eq, u64_eq, ← hk, Int.mul_comm x k, Int.mul_emod_mul_of_pos _ _ hkp]
  have hy0 := Int.emod_nonneg x (b := M) (by omega)
  have hy1 := Int.emod_lt_of_pos x hMp
  generalize x % M = y at *
  rw [w64_def]
  have hkq : k * q = 9223372036854775808 := by
    have : k * M = 2 * (k * q) := by rw [hm, ← Int.mul_assoc, Int.mul_comm k 2, Int.mul_assoc]
    omega
  split
  · rename_i hlt
    have a1 : 0 ≤ k * y := Int.mul_nonneg (by omega) hy0
    have a2 : k * y < k * q := Int.mul_lt_mul_of_pos_left hlt hkp
    rw [show (k * y + 9223372036854775808) % 18446744073709551616 - 9223372036854775808 = k * y from by omega]
    rw [Int.mul_ediv_cancel_left _ (by omega)]
    rw [hk]
    have : y < 9223372036854775808 := by
      have : M ≤ 18446744073709551616 := by
        have := Int.mul_le_mul_of_nonneg_right (a := 1) (b := k) (c := M) (by omega) (by omega)
        omega
      omega
    omega
  · rename_i hge
    have a1 : k * q ≤ k * y := Int.mul_le_mul_of_nonneg_left (by omega) (by omega)
    have a2 : k * y < k * M := Int.mul_lt_mul_of_pos_left hy1 hkp
    have a3 : k * (y - M) = k * y - k * M := Int.mul_sub _ _ _
    rw [show (k * y + 9223372036854775808) % 18446744073709551616 - 9223372036854775808 = k * (y - M) from by omega]
    rw [Int.mul_ediv_cancel_left _ (by omega), hk]
    have : M ≤ 18446744073709551616 := by
      have := Int.mul_le_mul_of_nonneg_right (a := 1) (b := k) (c := M) (by omega) (by omega)
      omega
    omega

theorem sextV_32 (x : Int) : sextV x 32 = IntKind.u64.wrap (wrap32 x) := by
  have h := sextV_eq x 32 (by omega) (by omega)
  rw [show ((32 : Nat) : Int) = 32 from rfl, show (2 : Int) ^ 32 = 4294967296 from rfl, show (2 : Int) ^ (32 - 1) = 2147483648 from rfl] at h
  rw [h, u64_eq, w32_def]
  split <;> omega
theorem sextV_cong (x y : Int) (h : x % 4294967296 = y % 4294967296) : sextV x 32 = sextV y 32 := by
  rw [sextV_32, sextV_32, w32_def, w32_def]; congr 1; omega
theorem sextV_mod (x : Int) : sextV x 32 % 4294967296 = x % 4294967296 := by
  rw [sextV_32, w32_def, u64_eq]; omega
theorem sextV_again (x : Int) : sextV (sextV x 32) 32 = sextV x 32 := sextV_cong _ _ (sextV_mod x)

/-! ### What is divided of 32 bits -/
theorem d_mul (x y : Int) : x % 4294967296 * y % 4294967296 = x * y % 4294967296 := by
  rw [Int.mul_emod, Int.emod_emod_of_dvd _ (Int.dvd_refl _), ← Int.mul_emod]
theorem d_mul' (x y : Int) : x * (y % 4294967296) % 4294967296 = x * y % 4294967296 := by
  rw [Int.mul_comm, d_mul, Int.mul_comm]
theorem w32_mod (x : Int) : wrap32 x % 4294967296 = x % 4294967296 := by rw [w32_def]; omega
theorem w32_cong (x y : Int) (h : x % 4294967296 = y % 4294967296) : wrap32 x = wrap32 y := by rw [w32_def, w32_def]; omega
theorem div32V_cong (a b c d : Int) (s : Bool) (h1 : c % 4294967296 = a % 4294967296) (h2 : d % 4294967296 = b % 4294967296) : div32V c d s = div32V a b s := by
  unfold div32V; rw [w32_cong c a h1, w32_cong d b h2, h1, h2]
theorem rem32V_cong (a b c d : Int) (s : Bool) (h1 : c % 4294967296 = a % 4294967296) (h2 : d % 4294967296 = b % 4294967296) : rem32V c d s = rem32V a b s := by
  unfold rem32V; rw [w32_cong c a h1, w32_cong d b h2, h1, h2]
theorem u64_mod32 (x : Int) : IntKind.u64.wrap x % 4294967296 = x % 4294967296 := by rw [u64_eq]; omega

theorem div32U_back (a b : Int) : sextV (IntKind.u64.wrap (IntKind.u64.wrap (div32V a b false * b) + rem32V a b false)) 32 = sextV a 32 := by
  apply sextV_cong
  rw [u64_mod32]
  have e1 : IntKind.u64.wrap (div32V a b false * b) % 4294967296 = quoU32 (a % 4294967296) (b % 4294967296) * (b % 4294967296) % 4294967296 := by
    rw [u64_mod32, ← d_mul]
    simp only [div32V, Bool.false_eq_true, if_false]
    rw [sextV_mod, d_mul, d_mul']
  have e2 : rem32V a b false % 4294967296 = remU (a % 4294967296) (b % 4294967296) % 4294967296 := by
    simp only [rem32V, Bool.false_eq_true, if_false]
    rw [sextV_mod]
  have e3 : quoU32 (a % 4294967296) (b % 4294967296) * (b % 4294967296) + remU (a % 4294967296) (b % 4294967296) = a % 4294967296 := by
    unfold quoU32 remU
    split
    · rename_i h; rw [h]; omega
    · have := Int.mul_ediv_add_emod (a % 4294967296) (b % 4294967296)
      rw [Int.mul_comm] at this; exact this
  omega
theorem div32S_back (a b : Int) : sextV (IntKind.u64.wrap (IntKind.u64.wrap (div32V a b true * b) + rem32V a b true)) 32 = sextV a 32 := by
  apply sextV_cong
  rw [u64_mod32]
  have e1 : IntKind.u64.wrap (div32V a b true * b) % 4294967296 = quoS32 (wrap32 a) (wrap32 b) * wrap32 b % 4294967296 := by
    rw [u64_mod32, ← d_mul]
    simp only [div32V, if_true]
    rw [u64_mod32, d_mul, ← d_mul' _ b, ← w32_mod b, d_mul']
  have e2 : rem32V a b true % 4294967296 = remS (wrap32 a) (wrap32 b) % 4294967296 := by
    simp only [rem32V, if_true]
    rw [u64_mod32]
  have e3 : (quoS32 (wrap32 a) (wrap32 b) * wrap32 b + remS (wrap32 a) (wrap32 b)) % 4294967296 = a % 4294967296 := by
    unfold quoS32 remS
    split
    · rename_i h; rw [h]; have := w32_mod a; omega
    · have := Int.mul_tdiv_add_tmod (wrap32 a) (wrap32 b)
      have k : wrap32 ((wrap32 a).tdiv (wrap32 b)) * wrap32 b % 4294967296 = wrap32 b * (wrap32 a).tdiv (wrap32 b) % 4294967296 := by
        rw [← d_mul, w32_mod, d_mul, Int.mul_comm]
      have := w32_mod a
      omega
  omega
theorem div32U_ext (a b : Int) : sextV (div32V a b false) 32 = div32V a b false := by
  simp only [div32V, Bool.false_eq_true, if_false]; exact sextV_again _
theorem rem32S_ext (a b : Int) : sextV (rem32V a b true) 32 = rem32V a b true := by
  simp only [rem32V, if_true]
  have ha := w32_bd a
  rw [sextV_32]
  have h : -2147483648 ≤ remS (wrap32 a) (wrap32 b) ∧ remS (wrap32 a) (wrap32 b) ≤ 2147483647 := by
    unfold remS; split
    · exact ha
    · have := tmod_small (wrap32 a) (wrap32 b) (by omega); omega
  rw [w32_def, u64_eq, u64_eq]
  omega
end Go.Proofs.Ytgcjefgblodfmaa.W
end

section
namespace Go.Proofs.Ytgcjefgblodfmaa.W
open Go Go.RowKit
set_option linter.unusedVariables false

theorem and31 (v : Int) (h : 0 ≤ v ∧ v ≤ 255) : bits .and .u8 v 31 = v % 32 := by
  rw [u8_and _ _ h.1 (by omega) (by omega) (by omega), show (31 : Int).toNat = 31 from rfl, nat_mask5]; omega
theorem and63b (v : Int) (h : 0 ≤ v ∧ v ≤ 255) : bits .and .u8 v 63 = v % 64 := by
  rw [u8_and _ _ h.1 (by omega) (by omega) (by omega), show (63 : Int).toNat = 63 from rfl, nat_mask6]; omega
theorem pow_le (n m : Nat) (h : n ≤ m) : (2 : Int) ^ n ≤ 2 ^ m := by
  rw [show m = n + (m - n) from by omega, Int.pow_add]
  have := Int.mul_le_mul_of_nonneg_left (a := 1) (b := 2 ^ (m - n)) (c := (2 : Int) ^ n) (by have := pow_pos' (m - n); omega) (by have := pow_pos' n; omega)
  omega
theorem pow_bd (A : Int) (h : 0 ≤ A ∧ A ≤ 63) : 1 ≤ (2 : Int) ^ A.toNat ∧ (2 : Int) ^ A.toNat ≤ 9223372036854775808 := by
  have h1 := pow_pos' A.toNat
  have h2 := pow_le A.toNat 63 (by omega)
  exact ⟨by omega, h2⟩
theorem wrap_pow (A : Int) (h : 0 ≤ A ∧ A ≤ 63) : IntKind.u64.wrap (2 ^ A.toNat) = 2 ^ A.toNat := by
  have := pow_bd A h
  rw [u64_eq]; omega
theorem wdiv_bd (x : Int) (n : Nat) : -9223372036854775808 ≤ wrap64 x / 2 ^ n ∧ wrap64 x / 2 ^ n ≤ 9223372036854775807 := by
  have hw := w64_bd x
  have hp := pow_pos' n
  constructor
  · have h1 : (-9223372036854775808 : Int) / 2 ^ n ≤ wrap64 x / 2 ^ n := Int.ediv_le_ediv hp hw.1
    have h2 : (-9223372036854775808 : Int) ≤ -9223372036854775808 / 2 ^ n := by
      rw [Int.le_ediv_iff_mul_le hp]
      omega
    omega
  · by_cases h : 0 ≤ wrap64 x
    · have := Int.ediv_le_self (2 ^ n) h; omega
    · have := Int.ediv_neg_of_neg_of_pos (a := wrap64 x) (b := 2 ^ n) (by omega) hp; omega

/-- Two shifts are one. -/
theorem shiftV_add (x a b k : Int) (hx : 0 ≤ x ∧ x ≤ 18446744073709551615) (ha : 0 ≤ a) (hb : 0 ≤ b) (hab : a + b ≤ 63) :
    shiftV (shiftV x a k) b k = shiftV x (a + b) k := by
  have e1 : a % 64 = a := by omega
  have e2 : b % 64 = b := by omega
  have e3 : (a + b) % 64 = a + b := by omega
  have e4 : (a + b).toNat = a.toNat + b.toNat := by omega
  unfold shiftV
  rw [e1, e2, e3, e4, Int.pow_add]
  by_cases k0 : k = 0
  · simp only [k0, if_true]
    rw [u64_eq, u64_eq, u64_eq, c_mul, Int.mul_assoc]
  · by_cases k1 : k = 1
    · simp only [k1, if_true, if_neg (show ¬ (1 : Int) = 0 from by decide)]
      exact Int.ediv_ediv_of_nonneg (Int.le_of_lt (pow_pos' _))
    · by_cases k2 : k = 2
      · simp only [k2, if_true, if_neg (show ¬ (2 : Int) = 0 from by decide), if_neg (show ¬ (2 : Int) = 1 from by decide)]
        have hz := wdiv_bd x a.toNat
        have e5 : wrap64 (IntKind.u64.wrap (wrap64 x / 2 ^ a.toNat)) = wrap64 x / 2 ^ a.toNat := by rw [u64_eq, w64_def]; omega
        rw [e5, Int.ediv_ediv_of_nonneg (Int.le_of_lt (pow_pos' _))]
      · simp only [if_neg k0, if_neg k1, if_neg k2]
theorem shiftV_div (x a : Int) (ha : 0 ≤ a ∧ a ≤ 63) : shiftV x a 1 = divV x (2 ^ a.toNat) false := by
  have hp := pow_bd a ha
  simp only [shiftV, divV, quoU, Bool.false_eq_true, if_false, if_true, if_neg (show ¬ (1 : Int) = 0 from by decide)]
  rw [if_neg (by omega), show a % 64 = a from by omega]
theorem shiftV_shr (x a : Int) (ha : 0 ≤ a ∧ a ≤ 63) : shiftV x a 1 = x / 2 ^ a.toNat := by
  simp only [shiftV, if_true, if_neg (show ¬ (1 : Int) = 0 from by decide)]
  rw [show a % 64 = a from by omega]
theorem shiftV_mul (x a : Int) (ha : 0 ≤ a ∧ a ≤ 63) : shiftV x a 0 = IntKind.u64.wrap (x * 2 ^ a.toNat) := by
  simp only [shiftV, if_true]
  rw [show a % 64 = a from by omega]
theorem shiftV_none (x a : Int) : shiftV x a 3 = x := by
  simp only [shiftV, if_neg (show ¬ (3 : Int) = 0 from by decide), if_neg (show ¬ (3 : Int) = 1 from by decide), if_neg (show ¬ (3 : Int) = 2 from by decide)]
theorem shiftV_round (x a k : Int) : shiftV x (a + 64) k = shiftV x a k := by
  unfold shiftV; rw [show (a + 64) % 64 = a % 64 from by omega]
end Go.Proofs.Ytgcjefgblodfmaa.W
end

section
namespace Go.Proofs.Ytgcjefgblodfmaa.W
open Go Go.RowKit
set_option linter.unusedVariables false

theorem and_one (z : Int) (h : 0 ≤ z ∧ z ≤ 18446744073709551615) : bits .and .u64 z 1 = z % 2 := by
  rw [u64_and _ _ h.1 (by omega) (by omega) (by omega), show (1 : Int).toNat = 1 from rfl, nat_mask1]; omega
theorem pow_split (i n : Nat) (h : i ≤ n) : (2 : Int) ^ n = 2 ^ (n - i) * 2 ^ i := by
  rw [← Int.pow_add]; congr 1; omega
/-- A bit of a number is that of what is left of it modulo a greater power of two. -/
theorem bit_mod (z : Int) (i n : Nat) (h : i < n) : z / 2 ^ i % 2 = z % 2 ^ n / 2 ^ i % 2 := by
  have hp := pow_pos' i
  have e : (2 : Int) ^ n = 2 ^ (n - (i + 1)) * (2 * 2 ^ i) := by
    rw [pow_split (i + 1) n (by omega), Int.pow_succ (2 : Int) i, Int.mul_comm ((2 : Int) ^ i) 2]
  have hz := Int.mul_ediv_add_emod z (2 ^ n)
  have e2 : z = z % 2 ^ n + (2 * (2 ^ (n - (i + 1)) * (z / 2 ^ n))) * 2 ^ i := by
    have : 2 ^ n * (z / 2 ^ n) = (2 * (2 ^ (n - (i + 1)) * (z / 2 ^ n))) * 2 ^ i := by
      rw [e]
      generalize z / (2 ^ (n - (i + 1)) * (2 * 2 ^ i)) = u
      generalize (2 : Int) ^ (n - (i + 1)) = a
      generalize (2 : Int) ^ i = b
      rw [Int.mul_assoc a (2 * b) u, Int.mul_assoc 2 b u, Int.mul_left_comm a 2, Int.mul_assoc 2 (a * u) b, Int.mul_assoc a u b, Int.mul_comm b u]
    omega
  generalize z % 2 ^ n = y at *
  generalize 2 ^ (n - (i + 1)) * (z / 2 ^ n) = u at *
  rw [e2, Int.add_mul_ediv_right _ _ (by omega)]
  omega

/-- sextV at every number of bits that the statement asks for (1 to 64). -/
theorem sextV_64 (x : Int) : sextV x 64 = x := by unfold sextV; rw [if_pos (by omega)]
theorem sextV_low (x : Int) (n : Nat) (h1 : 1 ≤ n) (h2 : n ≤ 63) (hx : 0 ≤ x ∧ x ≤ 18446744073709551615) : sextV x n % 2 ^ n = x % 2 ^ n := by
  rw [sextV_eq x n h1 h2]
  have hp := pow_pos' n
  have e : (18446744073709551616 : Int) = 2 ^ (64 - n) * 2 ^ n := by rw [← pow_split n 64 (by omega)]; rfl
  split
  · exact Int.emod_emod_of_dvd _ (Int.dvd_refl _)
  · rw [e, Int.add_mul_emod_self_right, Int.sub_emod_right]
    exact Int.emod_emod_of_dvd _ (Int.dvd_refl _)
theorem sextV_twice (x : Int) (n : Nat) (h1 : 1 ≤ n) (h2 : n ≤ 64) (hx : 0 ≤ x ∧ x ≤ 18446744073709551615) : sextV (sextV x n) n = sextV x n := by
  by_cases h : n = 64
  · subst h; exact sextV_64 _
  · have e := sextV_low x n h1 (by omega) hx
    rw [sextV_eq (sextV x n) n h1 (by omega), e, ← sextV_eq x n h1 (by omega)]
theorem sextV_bit_low (x : Int) (n i : Nat) (h1 : 1 ≤ n) (h2 : n ≤ 64) (hi : i < n) (hx : 0 ≤ x ∧ x ≤ 18446744073709551615) : sextV x n / 2 ^ i % 2 = x / 2 ^ i % 2 := by
  by_cases h : n = 64
  · subst h; rw [show ((64 : Nat) : Int) = 64 from rfl, sextV_64]
  · rw [bit_mod (sextV x n) i n hi, sextV_low x n h1 (by omega) hx, ← bit_mod x i n hi]
/-- From the sign's bit on all bits are the sign. -/
theorem sextV_bit_top (x : Int) (n i : Nat) (h1 : 1 ≤ n) (h2 : n ≤ 63) (hi : n - 1 ≤ i) (hi2 : i ≤ 63) :
    sextV x n / 2 ^ i % 2 = if x % 2 ^ n < 2 ^ (n - 1) then 0 else 1 := by
  rw [sextV_eq x n h1 h2]
  have hp := pow_pos' i
  have hq := pow_le (n - 1) i hi
  have hy := Int.emod_nonneg x (b := 2 ^ n) (by have := pow_pos' n; omega)
  have hy1 := Int.emod_lt_of_pos x (pow_pos' n)
  have hn : (2 : Int) ^ n = 2 * 2 ^ (n - 1) := by rw [pow_split 1 n h1, Int.mul_comm]; rfl
  split
  · rename_i h
    rw [Int.ediv_eq_zero_of_lt hy (by omega)]; rfl
  · rename_i h
    have e : (18446744073709551616 : Int) = 2 * 2 ^ (63 - i) * 2 ^ i := by
      rw [Int.mul_assoc, ← pow_split i 63 hi2]; rfl
    have e2 : x % 2 ^ n - 2 ^ n + 18446744073709551616 = (x % 2 ^ n - 2 ^ n + 2 ^ i) + (2 * 2 ^ (63 - i) - 1) * 2 ^ i := by
      rw [Int.sub_mul, ← e]; omega
    rw [e2, Int.add_mul_ediv_right _ _ (by omega), Int.ediv_eq_zero_of_lt (by omega) (by omega)]
    omega
theorem sextV_bit_high (x : Int) (n i : Nat) (h1 : 1 ≤ n) (h2 : n ≤ 64) (hi : n ≤ i) (hi2 : i ≤ 63) :
    sextV x n / 2 ^ i % 2 = sextV x n / 2 ^ (n - 1) % 2 := by
  have h3 : n ≤ 63 := by omega
  rw [sextV_bit_top x n i h1 h3 (by omega) hi2, sextV_bit_top x n (n - 1) h1 h3 (by omega) (by omega)]
theorem shiftV_sext (x : Int) (n : Nat) (h1 : 1 ≤ n) (h2 : n ≤ 64) (hx : 0 ≤ x ∧ x ≤ 18446744073709551615) : shiftV (shiftV x (64 - n) 0) (64 - n) 2 = sextV x n := by
  by_cases h : n = 64
  · subst h
    rw [show ((64 : Nat) : Int) = 64 from rfl, sextV_64]
    unfold shiftV
    simp only [if_true, if_neg (show ¬ (2 : Int) = 0 from by decide), if_neg (show ¬ (2 : Int) = 1 from by decide)]
    rw [show ((64 - 64 : Int) % 64).toNat = 0 from rfl, Int.pow_zero, Int.mul_one, Int.ediv_one, u64_eq, u64_eq, w64_def]
    omega
  · unfold shiftV sextV
    simp only [if_true, if_neg (show ¬ (2 : Int) = 0 from by decide), if_neg (show ¬ (2 : Int) = 1 from by decide)]
    rw [if_neg (by omega), show (64 - (n : Int)) % 64 = 64 - n from by omega]
end Go.Proofs.Ytgcjefgblodfmaa.W
end

section
namespace Go.Proofs.Ytgcjefgblodfmaa.W
open Go Go.RowKit
set_option linter.unusedVariables false

/-- One bit more of b: what a times it is. -/
theorem bit_next (b : Int) (i : Nat) (hb : 0 ≤ b) : b / 2 ^ i = 2 * (b / 2 ^ (i + 1)) + b / 2 ^ i % 2 := by
  have h : b / 2 ^ (i + 1) = b / 2 ^ i / 2 := by
    rw [Int.pow_succ, Int.ediv_ediv_of_nonneg (Int.le_of_lt (pow_pos' i))]
  rw [h]; omega
theorem div_pow64 (b : Int) (hb : 0 ≤ b ∧ b ≤ 18446744073709551615) : b / 2 ^ 64 = 0 := by
  rw [show (2 : Int) ^ 64 = 18446744073709551616 from rfl]; omega
theorem shr_bd (b : Int) (i : Nat) (hb : 0 ≤ b ∧ b ≤ 18446744073709551615) : 0 ≤ b / 2 ^ i ∧ b / 2 ^ i ≤ 18446744073709551615 := div_bd b _ hb (pow_pos' i)

/-- A round of the product by adding: V is what stands (two halves), the next is twice that, and a. -/
theorem high_round0 (V : Int) (h0 : 0 ≤ V) (h1 : 2 * V ≤ 340282366920938463463374607431768211455) :
    IntKind.u64.wrap (IntKind.u64.wrap (V / 18446744073709551616 * 2) + V % 18446744073709551616 / 9223372036854775808) = 2 * V / 18446744073709551616 ∧
    IntKind.u64.wrap (V % 18446744073709551616 * 2) = 2 * V % 18446744073709551616 := by
  rw [u64_eq, u64_eq, u64_eq]; omega
theorem high_round1 (U a : Int) (h0 : 0 ≤ U) (ha : 0 ≤ a ∧ a ≤ 18446744073709551615) (h1 : U + a ≤ 340282366920938463463374607431768211455) :
    IntKind.u64.wrap (U % 18446744073709551616 + a) = (U + a) % 18446744073709551616 ∧
    ((U + a) % 18446744073709551616 < U % 18446744073709551616 → IntKind.u64.wrap (U / 18446744073709551616 + 1) = (U + a) / 18446744073709551616) ∧
    (¬ (U + a) % 18446744073709551616 < U % 18446744073709551616 → U / 18446744073709551616 = (U + a) / 18446744073709551616) := by
  rw [u64_eq, u64_eq]; omega
theorem mul_cap (a b : Int) (i : Nat) (ha : 0 ≤ a ∧ a ≤ 18446744073709551615) (hb : 0 ≤ b ∧ b ≤ 18446744073709551615) :
    0 ≤ a * (b / 2 ^ i) ∧ a * (b / 2 ^ i) ≤ 340282366920938463426481119284349108225 := mul_le64 a _ ha (shr_bd b i hb)
theorem mul_bit (a b : Int) (i : Nat) (hb : 0 ≤ b) : a * (b / 2 ^ i) = 2 * (a * (b / 2 ^ (i + 1))) + a * (b / 2 ^ i % 2) := by
  have := bit_next b i hb
  generalize b / 2 ^ i % 2 = t at *
  rw [this, Int.mul_add, ← Int.mul_assoc, Int.mul_comm a 2, Int.mul_assoc]

/-- A round of the division by taking away. -/
theorem plain_round (a b : Int) (i : Nat) (ha : 0 ≤ a ∧ a ≤ 18446744073709551615) (hb : 0 < b ∧ b ≤ 18446744073709551615) (r Q t : Int)
    (hr : a / 2 ^ (i + 1) % b = r) (hQ : a / 2 ^ (i + 1) / b = Q) (ht : a / 2 ^ i % 2 = t) :
    (b ≤ 2 * r + t → a / 2 ^ i % b = 2 * r + t - b ∧ a / 2 ^ i / b = 2 * Q + 1) ∧
    (2 * r + t < b → a / 2 ^ i % b = 2 * r + t ∧ a / 2 ^ i / b = 2 * Q) := by
  have hn := bit_next a i ha.1
  have ht' : 0 ≤ a / 2 ^ i % 2 ∧ a / 2 ^ i % 2 ≤ 1 := by omega
  have h0 := Int.emod_nonneg (a / 2 ^ (i + 1)) (b := b) (by omega)
  have h1 := Int.emod_lt_of_pos (a / 2 ^ (i + 1)) hb.1
  have e := Int.mul_ediv_add_emod (a / 2 ^ (i + 1)) b
  rw [ht] at hn ht'
  rw [hr] at h0 h1 e
  rw [hQ] at e
  have key : a / 2 ^ i = b * (2 * Q) + (2 * r + t) := by
    rw [hn, ← Int.mul_assoc, Int.mul_comm b 2, Int.mul_assoc]; omega
  have hA : ∀ q s, a / 2 ^ i = b * q + s → 0 ≤ s → s < b → a / 2 ^ i % b = s ∧ a / 2 ^ i / b = q := by
    intro q s h hs hsb
    rw [h]
    constructor
    · rw [Int.mul_add_emod_self_left]; exact Int.emod_eq_of_lt hs hsb
    · rw [Int.mul_add_ediv_left _ _ (by omega), Int.ediv_eq_zero_of_lt hs hsb]; omega
  constructor
  · intro h
    have k2 : a / 2 ^ i = b * (2 * Q + 1) + (2 * r + t - b) := by rw [key, Int.mul_add]; omega
    exact hA _ _ k2 (by omega) (by omega)
  · intro h
    exact hA _ _ key (by omega) (by omega)
end Go.Proofs.Ytgcjefgblodfmaa.W
end

section
namespace Go.Proofs.Ytgcjefgblodfmaa.W
open Go Go.RowKit
set_option linter.unusedVariables false

/-- A number without its sign. -/
def sizeV (x : Int) : Int := if 9223372036854775808 ≤ x then 18446744073709551616 - x else x
theorem sizeV_bd (x : Int) (hx : 0 ≤ x ∧ x ≤ 18446744073709551615) : 0 ≤ sizeV x ∧ sizeV x ≤ 9223372036854775808 ∧ (0 < x → 0 < sizeV x) := by
  unfold sizeV; split <;> omega
theorem sizeV_sg (x : Int) (hx : 0 ≤ x ∧ x ≤ 18446744073709551615) : wrap64 x = if 9223372036854775808 ≤ x then -sizeV x else sizeV x := by
  unfold sizeV; rw [w64_def]; split <;> omega
theorem u64_w64 (z : Int) : IntKind.u64.wrap (wrap64 z) = IntKind.u64.wrap z := by rw [u64_eq, u64_eq, w64_def]; omega
theorem w64_zero (b : Int) (hb : 0 ≤ b ∧ b ≤ 18446744073709551615) (h : 0 < b) : wrap64 b ≠ 0 := by rw [w64_def]; omega

theorem divS_eq (a b : Int) (ha : 0 ≤ a ∧ a ≤ 18446744073709551615) (hb : 0 ≤ b ∧ b ≤ 18446744073709551615) (h : 0 < b) :
    divV a b true = if (9223372036854775808 ≤ a ↔ 9223372036854775808 ≤ b) then sizeV a / sizeV b else IntKind.u64.wrap (-(sizeV a / sizeV b)) := by
  have sa := sizeV_bd a ha
  have sb := sizeV_bd b hb
  have hq : 0 ≤ sizeV a / sizeV b ∧ sizeV a / sizeV b ≤ 9223372036854775808 :=
    ⟨Int.ediv_nonneg sa.1 sb.1, by have := Int.ediv_le_self (sizeV b) sa.1; omega⟩
  simp only [divV, if_true, quoS]
  rw [if_neg (w64_zero b hb h), u64_w64, sizeV_sg a ha, sizeV_sg b hb]
  have t := Int.tdiv_eq_ediv_of_nonneg sa.1 (b := sizeV b)
  by_cases na : 9223372036854775808 ≤ a <;> by_cases nb : 9223372036854775808 ≤ b
  · rw [if_pos na, if_pos nb, if_pos ⟨fun _ => nb, fun _ => na⟩, Int.neg_tdiv, Int.tdiv_neg, Int.neg_neg, t, u64_eq]; omega
  · rw [if_pos na, if_neg nb, if_neg (fun x => nb (x.1 na)), Int.neg_tdiv, t]
  · rw [if_neg na, if_pos nb, if_neg (fun x => na (x.2 nb)), Int.tdiv_neg, t]
  · rw [if_neg na, if_neg nb, if_pos ⟨fun x => absurd x na, fun x => absurd x nb⟩, t, u64_eq]; omega

theorem remS_eq (a b : Int) (ha : 0 ≤ a ∧ a ≤ 18446744073709551615) (hb : 0 ≤ b ∧ b ≤ 18446744073709551615) (h : 0 < b) :
    remV a b true = if 9223372036854775808 ≤ a then IntKind.u64.wrap (-(sizeV a % sizeV b)) else sizeV a % sizeV b := by
  have sa := sizeV_bd a ha
  have sb := sizeV_bd b hb
  have hr : 0 ≤ sizeV a % sizeV b ∧ sizeV a % sizeV b ≤ 9223372036854775808 :=
    ⟨Int.emod_nonneg _ (by omega), by have := Int.emod_lt_of_pos (sizeV a) (b := sizeV b) (by omega); omega⟩
  simp only [remV, if_true, remS]
  rw [if_neg (w64_zero b hb h), sizeV_sg a ha, sizeV_sg b hb]
  have t := Int.tmod_eq_emod_of_nonneg sa.1 (b := sizeV b)
  by_cases na : 9223372036854775808 ≤ a <;> by_cases nb : 9223372036854775808 ≤ b
  · rw [if_pos na, if_pos nb, if_pos na, Int.neg_tmod, Int.tmod_neg, t]
  · rw [if_pos na, if_neg nb, if_pos na, Int.neg_tmod, t]
  · rw [if_neg na, if_pos nb, if_neg na, Int.tmod_neg, t, u64_eq]; omega
  · rw [if_neg na, if_neg nb, if_neg na, t, u64_eq]; omega

/-- A number of 32 bits, as the document has it. -/
def halfV (x : Int) (s : Bool) : Int := if s = true then sextV x 32 else x % 4294967296
theorem halfV_bd (x : Int) (s : Bool) (hx : 0 ≤ x ∧ x ≤ 18446744073709551615) : 0 ≤ halfV x s ∧ halfV x s ≤ 18446744073709551615 := by
  unfold halfV; split
  · exact sextV_bd _ _ hx
  · omega
theorem w64_half (x : Int) : wrap64 (sextV x 32) = wrap32 x := by
  rw [sextV_32, u64_eq, w64_def, w32_def]; omega
theorem w32_u64 (z : Int) : wrap32 (IntKind.u64.wrap z) = wrap32 z := by rw [u64_eq, w32_def, w32_def]; omega
theorem w32_w64 (z : Int) : wrap32 (wrap64 z) = wrap32 z := by rw [w64_def, w32_def, w32_def]; omega
theorem div32_eq (a b : Int) (s : Bool) : sextV (divV (halfV a s) (halfV b s) s) 32 = div32V a b s := by
  cases s
  · simp only [halfV, divV, div32V, Bool.false_eq_true, if_false]
    apply sextV_cong
    unfold quoU quoU32
    split <;> rfl
  · simp only [halfV, divV, div32V, if_true]
    rw [w64_half, w64_half, sextV_32, w32_u64]
    congr 1
    unfold quoS quoS32
    split
    · rw [w32_def]; rfl
    · exact w32_w64 _
theorem rem32_eq (a b : Int) (s : Bool) : sextV (remV (halfV a s) (halfV b s) s) 32 = rem32V a b s := by
  cases s
  · simp only [halfV, remV, rem32V, Bool.false_eq_true, if_false]
  · simp only [halfV, remV, rem32V, if_true]
    rw [w64_half, w64_half, sextV_32, w32_u64]
    congr 1
    have ha := w32_bd a
    have h : -2147483648 ≤ remS (wrap32 a) (wrap32 b) ∧ remS (wrap32 a) (wrap32 b) ≤ 2147483647 := by
      unfold remS; split
      · exact ha
      · have := tmod_small (wrap32 a) (wrap32 b) (by omega); omega
    rw [w32_def]; omega

/-! ### Shifts one by one -/
theorem and63i (b : Int) : bits .and .i64 b 63 = b % 64 := by
  show IntKind.i64.wrap ((BitVec.ofInt 64 b &&& BitVec.ofInt 64 63).toNat : Int) = _
  rw [BitVec.toNat_and, show (BitVec.ofInt 64 63).toNat = 63 from rfl, nat_mask6, BitVec.toNat_ofInt, IntKind.wrap_i64]
  rw [show (2 : Nat) ^ 64 = 18446744073709551616 from rfl]
  omega
theorem shiftV_zero (x k : Int) (hx : 0 ≤ x ∧ x ≤ 18446744073709551615) : shiftV x 0 k = x := by
  unfold shiftV
  rw [show ((0 : Int) % 64).toNat = 0 from rfl, Int.pow_zero, Int.mul_one, Int.ediv_one, Int.ediv_one, u64_eq, u64_eq, w64_def]
  (repeat' split) <;> omega
theorem shiftV_one0 (y : Int) : shiftV y 1 0 = IntKind.u64.wrap (y * 2) := by
  simp only [shiftV, if_true]; rfl
theorem shiftV_one1 (y : Int) : shiftV y 1 1 = y / 2 := by
  simp only [shiftV, if_true, if_neg (show ¬ (1 : Int) = 0 from by decide)]; rfl
theorem shiftV_one2 (y : Int) (hy : 0 ≤ y ∧ y ≤ 18446744073709551615) : shiftV y 1 2 = y / 2 + y / 9223372036854775808 * 9223372036854775808 := by
  simp only [shiftV, if_true, if_neg (show ¬ (2 : Int) = 0 from by decide), if_neg (show ¬ (2 : Int) = 1 from by decide)]
  rw [show (2 : Int) ^ ((1 : Int) % 64).toNat = 2 from rfl, u64_eq, w64_def]; omega
theorem shiftV_else (y b k : Int) (h0 : k ≠ 0) (h1 : k ≠ 1) (h2 : k ≠ 2) : shiftV y b k = y := by
  simp only [shiftV, if_neg h0, if_neg h1, if_neg h2]
theorem shiftV_at (x b k : Int) : shiftV x (b % 64) k = shiftV x b k := by
  unfold shiftV; rw [show b % 64 % 64 = b % 64 from by omega]
end Go.Proofs.Ytgcjefgblodfmaa.W
end

section
namespace Go.Proofs.Ytgcjefgblodfmaa.D
def lasts : List Int := [0, 4, 10, 17, 21, 30, 40, 44, 49, 57, 62, 69, 75, 86, 97]
/-- The kind of an op. -/
def kindV (o : Int) : Int :=
  if o ≤ 0 then 0 else if o ≤ 4 then 1 else if o ≤ 10 then 2 else if o ≤ 17 then 3 else if o ≤ 21 then 4 else if o ≤ 30 then 5 else if o ≤ 40 then 6 else if o ≤ 44 then 7
  else if o ≤ 49 then 8 else if o ≤ 57 then 9 else if o ≤ 62 then 10 else if o ≤ 69 then 11 else if o ≤ 75 then 12 else if o ≤ 86 then 13 else if o ≤ 97 then 14 else 0
theorem fifteen (k : Nat) (hk : k < 15) : k = 0 ∨ k = 1 ∨ k = 2 ∨ k = 3 ∨ k = 4 ∨ k = 5 ∨ k = 6 ∨ k = 7 ∨ k = 8 ∨ k = 9 ∨ k = 10 ∨ k = 11 ∨ k = 12 ∨ k = 13 ∨ k = 14 := by omega
theorem kind_at (o : Int) (k : Nat) (hk : k < 15) (h1 : o ≤ lasts.getD k 0) (h2 : k = 0 ∨ lasts.getD (k - 1) 0 < o) : kindV o = k := by
  rcases fifteen k hk with rfl | rfl | rfl | rfl | rfl | rfl | rfl | rfl | rfl | rfl | rfl | rfl | rfl | rfl | rfl
  · replace h1 : o ≤ (0 : Int) := h1
    have h2 : True := trivial
    unfold kindV
    rw [if_pos (by omega)]; rfl
  · replace h1 : o ≤ (4 : Int) := h1
    replace h2 : (0 : Int) < o := by rcases h2 with h2 | h2; exact absurd h2 (by decide); exact h2
    unfold kindV
    rw [if_neg (by omega), if_pos (by omega)]; rfl
  · replace h1 : o ≤ (10 : Int) := h1
    replace h2 : (4 : Int) < o := by rcases h2 with h2 | h2; exact absurd h2 (by decide); exact h2
    unfold kindV
    rw [if_neg (by omega), if_neg (by omega), if_pos (by omega)]; rfl
  · replace h1 : o ≤ (17 : Int) := h1
    replace h2 : (10 : Int) < o := by rcases h2 with h2 | h2; exact absurd h2 (by decide); exact h2
    unfold kindV
    rw [if_neg (by omega), if_neg (by omega), if_neg (by omega), if_pos (by omega)]; rfl
  · replace h1 : o ≤ (21 : Int) := h1
    replace h2 : (17 : Int) < o := by rcases h2 with h2 | h2; exact absurd h2 (by decide); exact h2
    unfold kindV
    rw [if_neg (by omega), if_neg (by omega), if_neg (by omega), if_neg (by omega), if_pos (by omega)]; rfl
  · replace h1 : o ≤ (30 : Int) := h1
    replace h2 : (21 : Int) < o := by rcases h2 with h2 | h2; exact absurd h2 (by decide); exact h2
    unfold kindV
    rw [if_neg (by omega), if_neg (by omega), if_neg (by omega), if_neg (by omega), if_neg (by omega), if_pos (by omega)]; rfl
  · replace h1 : o ≤ (40 : Int) := h1
    replace h2 : (30 : Int) < o := by rcases h2 with h2 | h2; exact absurd h2 (by decide); exact h2
    unfold kindV
    rw [if_neg (by omega), if_neg (by omega), if_neg (by omega), if_neg (by omega), if_neg (by omega), if_neg (by omega), if_pos (by omega)]; rfl
  · replace h1 : o ≤ (44 : Int) := h1
    replace h2 : (40 : Int) < o := by rcases h2 with h2 | h2; exact absurd h2 (by decide); exact h2
    unfold kindV
    rw [if_neg (by omega), if_neg (by omega), if_neg (by omega), if_neg (by omega), if_neg (by omega), if_neg (by omega), if_neg (by omega), if_pos (by omega)]; rfl
  · replace h1 : o ≤ (49 : Int) := h1
    replace h2 : (44 : Int) < o := by rcases h2 with h2 | h2; exact absurd h2 (by decide); exact h2
    unfold kindV
    rw [if_neg (by omega), if_neg (by omega), if_neg (by omega), if_neg (by omega), if_neg (by omega), if_neg (by omega), if_neg (by omega), if_neg (by omega), if_pos (by omega)]; rfl
  · replace h1 : o ≤ (57 : Int) := h1
    replace h2 : (49 : Int) < o := by rcases h2 with h2 | h2; exact absurd h2 (by decide); exact h2
    unfold kindV
    rw [if_neg (by omega), if_neg (by omega), if_neg (by omega), if_neg (by omega), if_neg (by omega), if_neg (by omega), if_neg (by omega), if_neg (by omega), if_neg (by omega), if_pos (by omega)]; rfl
  · replace h1 : o ≤ (62 : Int) := h1
    replace h2 : (57 : Int) < o := by rcases h2 with h2 | h2; exact absurd h2 (by decide); exact h2
    unfold kindV
    rw [if_neg (by omega), if_neg (by omega), if_neg (by omega), if_neg (by omega), if_neg (by omega), if_neg (by omega), if_neg (by omega), if_neg (by omega), if_neg (by omega), if_neg (by omega), if_pos (by omega)]; rfl
  · replace h1 : o ≤ (69 : Int) := h1
    replace h2 : (62 : Int) < o := by rcases h2 with h2 | h2; exact absurd h2 (by decide); exact h2
    unfold kindV
    rw [if_neg (by omega), if_neg (by omega), if_neg (by omega), if_neg (by omega), if_neg (by omega), if_neg (by omega), if_neg (by omega), if_neg (by omega), if_neg (by omega), if_neg (by omega), if_neg (by omega), if_pos (by omega)]; rfl
  · replace h1 : o ≤ (75 : Int) := h1
    replace h2 : (69 : Int) < o := by rcases h2 with h2 | h2; exact absurd h2 (by decide); exact h2
    unfold kindV
    rw [if_neg (by omega), if_neg (by omega), if_neg (by omega), if_neg (by omega), if_neg (by omega), if_neg (by omega), if_neg (by omega), if_neg (by omega), if_neg (by omega), if_neg (by omega), if_neg (by omega), if_neg (by omega), if_pos (by omega)]; rfl
  · replace h1 : o ≤ (86 : Int) := h1
    replace h2 : (75 : Int) < o := by rcases h2 with h2 | h2; exact absurd h2 (by decide); exact h2
    unfold kindV
    rw [if_neg (by omega), if_neg (by omega), if_neg (by omega), if_neg (by omega), if_neg (by omega), if_neg (by omega), if_neg (by omega), if_neg (by omega), if_neg (by omega), if_neg (by omega), if_neg (by omega), if_neg (by omega), if_neg (by omega), if_pos (by omega)]; rfl
  · replace h1 : o ≤ (97 : Int) := h1
    replace h2 : (86 : Int) < o := by rcases h2 with h2 | h2; exact absurd h2 (by decide); exact h2
    unfold kindV
    rw [if_neg (by omega), if_neg (by omega), if_neg (by omega), if_neg (by omega), if_neg (by omega), if_neg (by omega), if_neg (by omega), if_neg (by omega), if_neg (by omega), if_neg (by omega), if_neg (by omega), if_neg (by omega), if_neg (by omega), if_neg (by omega), if_pos (by omega)]; rfl
theorem kind_none (o : Int) (h : 97 < o) : kindV o = 0 := by
  unfold kindV
  rw [if_neg (by omega), if_neg (by omega), if_neg (by omega), if_neg (by omega), if_neg (by omega), if_neg (by omega), if_neg (by omega), if_neg (by omega), if_neg (by omega), if_neg (by omega), if_neg (by omega), if_neg (by omega), if_neg (by omega), if_neg (by omega), if_neg (by omega)]
end Go.Proofs.Ytgcjefgblodfmaa.D
end

section
namespace Go.Proofs.Ytgcjefgblodfmaa.A
open Go Go.RowKit W D
set_option linter.unusedVariables false

def B64 (a : Int) : Prop := 0 ≤ a ∧ a ≤ 18446744073709551615
def ltS (a b : Int) : Bool := decide (wrap64 a < wrap64 b)
def ltU (a b : Int) : Bool := decide (a < b)
def eqU (a b : Int) : Bool := decide (a = b)
def notT (t : Int → Int → Bool) (a b : Int) : Bool := !t a b
def sumV (a b : Int) : Int := IntKind.u64.wrap (a + b)
def difV (a b : Int) : Int := IntKind.u64.wrap (a - b)
def mulV (a b : Int) : Int := IntKind.u64.wrap (a * b)
def xorV (a b : Int) : Int := bits .xor .u64 a b
def orV (a b : Int) : Int := bits .or .u64 a b
def andV (a b : Int) : Int := bits .and .u64 a b
def flagV (t : Int → Int → Bool) (a b : Int) : Int := if t a b = true then 1 else 0
def lowV (a : Int) : Int := a % 4294967296
def lowS (a : Int) : Int := sextV a 32
def lowerV (f : Int → Int → Int) (a b : Int) : Int := lowS (f a b)
def shV (k : Int) (a b : Int) : Int := shiftV a (b % 64) k
def sh32V (r : Int → Int) (k : Int) (a b : Int) : Int := lowS (shiftV (r a) (b % 32) k)
def hiV (sa sb : Bool) (a b : Int) : Int := highV a b sa sb
def byV (f : Int → Int → Bool → Int) (s : Bool) (a b : Int) : Int := f a b s

abbrev Tb := List (Int × (Int → Int → Int))
abbrev Tt := List (Int × (Int → Int → Bool))
def look {α : Type} : List (Int × α) → Int → Option α
  | [], _ => none
  | (k, f) :: L, x => if x = k then some f else look L x
def tNum : Tb := [(30, shV 2), (29, shV 1), (28, shV 0), (24, flagV ltU), (23, flagV ltS), (27, andV), (26, orV), (25, xorV), (22, sumV)]
def tReg : Tb := [(38, shV 2), (37, shV 1), (33, shV 0), (35, flagV ltU), (34, flagV ltS), (40, andV), (39, orV), (36, xorV), (32, difV), (31, sumV)]
def tNum32 : Tb := [(44, sh32V lowS 2), (43, sh32V lowV 1), (42, sh32V lowV 0), (41, lowerV sumV)]
def tReg32 : Tb := [(49, sh32V lowS 2), (48, sh32V lowV 1), (47, sh32V lowV 0), (46, lowerV difV), (45, lowerV sumV)]
def tPro : Tb := [(57, byV remV false), (56, byV remV true), (55, byV divV false), (54, byV divV true), (53, hiV false false), (52, hiV true false), (51, hiV true true), (50, mulV)]
def tPro32 : Tb := [(62, byV rem32V false), (61, byV rem32V true), (60, byV div32V false), (59, byV div32V true), (58, lowerV mulV)]
def tBra : Tt := [(10, notT ltU), (9, ltU), (8, notT ltS), (7, ltS), (6, notT eqU), (5, eqU)]
/-- The table of a kind. -/
def tabV (k : Int) : Tb := if k = 5 then tNum else if k = 6 then tReg else if k = 7 then tNum32 else if k = 8 then tReg32 else if k = 9 then tPro else if k = 10 then tPro32 else []
def doV (o a b : Int) : Int := match look (tabV (kindV o)) o with | some f => f a b | none => 0
def takenV (o a b : Int) : Bool := match look tBra o with | some t => t a b | none => false
def secondV (o im b : Int) : Int := if kindV o = 5 ∨ kindV o = 7 then IntKind.u64.wrap im else b

theorem lowS_bd {a : Int} (h : B64 a) : B64 (lowS a) := sextV_bd a 32 h
theorem lowV_bd {a : Int} (h : B64 a) : B64 (lowV a) := by unfold B64 lowV at *; omega
theorem sum_bd (a b : Int) : B64 (sumV a b) := u64_bd _
theorem dif_bd (a b : Int) : B64 (difV a b) := u64_bd _
theorem mul_bd (a b : Int) : B64 (mulV a b) := u64_bd _
theorem flag_bd (t : Int → Int → Bool) (a b : Int) : B64 (flagV t a b) := by unfold flagV B64; split <;> omega
theorem xor_bd {a b : Int} (ha : B64 a) (hb : B64 b) : B64 (xorV a b) := by
  unfold xorV; rw [u64_xor _ _ ha.1 (by have := ha.2; omega) hb.1 (by have := hb.2; omega)]
  have h1 : a.toNat < 2 ^ 64 := by have := ha.1; have := ha.2; omega
  have h2 : b.toNat < 2 ^ 64 := by have := hb.1; have := hb.2; omega
  have := Nat.xor_lt_two_pow h1 h2
  unfold B64; omega
theorem or_bd {a b : Int} (ha : B64 a) (hb : B64 b) : B64 (orV a b) := by
  unfold orV; rw [u64_or _ _ ha.1 (by have := ha.2; omega) hb.1 (by have := hb.2; omega)]
  have h1 : a.toNat < 2 ^ 64 := by have := ha.1; have := ha.2; omega
  have h2 : b.toNat < 2 ^ 64 := by have := hb.1; have := hb.2; omega
  have := Nat.or_lt_two_pow h1 h2
  unfold B64; omega
theorem and_bd {a b : Int} (ha : B64 a) (hb : B64 b) : B64 (andV a b) := by
  unfold andV; rw [u64_and _ _ ha.1 (by have := ha.2; omega) hb.1 (by have := hb.2; omega)]
  have h1 : a.toNat < 2 ^ 64 := by have := ha.1; have := ha.2; omega
  have := Nat.and_lt_two_pow a.toNat (show b.toNat < 2 ^ 64 by have := hb.1; have := hb.2; omega)
  unfold B64; omega
end Go.Proofs.Ytgcjefgblodfmaa.A
end

section
namespace Go.Proofs.Ytgcjefgblodfmaa.A
open Go Go.RowKit W D
set_option linter.unusedVariables false

/-! ### Op by op -/
theorem do_22 (a b : Int) : doV 22 a b = sumV a b := rfl
theorem do_23 (a b : Int) : doV 23 a b = flagV ltS a b := rfl
theorem do_24 (a b : Int) : doV 24 a b = flagV ltU a b := rfl
theorem do_25 (a b : Int) : doV 25 a b = xorV a b := rfl
theorem do_26 (a b : Int) : doV 26 a b = orV a b := rfl
theorem do_27 (a b : Int) : doV 27 a b = andV a b := rfl
theorem do_28 (a b : Int) : doV 28 a b = shV 0 a b := rfl
theorem do_29 (a b : Int) : doV 29 a b = shV 1 a b := rfl
theorem do_30 (a b : Int) : doV 30 a b = shV 2 a b := rfl
theorem do_31 (a b : Int) : doV 31 a b = sumV a b := rfl
theorem do_32 (a b : Int) : doV 32 a b = difV a b := rfl
theorem do_33 (a b : Int) : doV 33 a b = shV 0 a b := rfl
theorem do_34 (a b : Int) : doV 34 a b = flagV ltS a b := rfl
theorem do_35 (a b : Int) : doV 35 a b = flagV ltU a b := rfl
theorem do_36 (a b : Int) : doV 36 a b = xorV a b := rfl
theorem do_37 (a b : Int) : doV 37 a b = shV 1 a b := rfl
theorem do_38 (a b : Int) : doV 38 a b = shV 2 a b := rfl
theorem do_39 (a b : Int) : doV 39 a b = orV a b := rfl
theorem do_40 (a b : Int) : doV 40 a b = andV a b := rfl
theorem do_41 (a b : Int) : doV 41 a b = lowerV sumV a b := rfl
theorem do_42 (a b : Int) : doV 42 a b = sh32V lowV 0 a b := rfl
theorem do_43 (a b : Int) : doV 43 a b = sh32V lowV 1 a b := rfl
theorem do_44 (a b : Int) : doV 44 a b = sh32V lowS 2 a b := rfl
theorem do_45 (a b : Int) : doV 45 a b = lowerV sumV a b := rfl
theorem do_46 (a b : Int) : doV 46 a b = lowerV difV a b := rfl
theorem do_47 (a b : Int) : doV 47 a b = sh32V lowV 0 a b := rfl
theorem do_48 (a b : Int) : doV 48 a b = sh32V lowV 1 a b := rfl
theorem do_49 (a b : Int) : doV 49 a b = sh32V lowS 2 a b := rfl
theorem do_50 (a b : Int) : doV 50 a b = mulV a b := rfl
theorem do_51 (a b : Int) : doV 51 a b = hiV true true a b := rfl
theorem do_52 (a b : Int) : doV 52 a b = hiV true false a b := rfl
theorem do_53 (a b : Int) : doV 53 a b = hiV false false a b := rfl
theorem do_54 (a b : Int) : doV 54 a b = byV divV true a b := rfl
theorem do_55 (a b : Int) : doV 55 a b = byV divV false a b := rfl
theorem do_56 (a b : Int) : doV 56 a b = byV remV true a b := rfl
theorem do_57 (a b : Int) : doV 57 a b = byV remV false a b := rfl
theorem do_58 (a b : Int) : doV 58 a b = lowerV mulV a b := rfl
theorem do_59 (a b : Int) : doV 59 a b = byV div32V true a b := rfl
theorem do_60 (a b : Int) : doV 60 a b = byV div32V false a b := rfl
theorem do_61 (a b : Int) : doV 61 a b = byV rem32V true a b := rfl
theorem do_62 (a b : Int) : doV 62 a b = byV rem32V false a b := rfl
theorem do_1 (a b : Int) : doV 1 a b = 0 := rfl
theorem taken_5 (a b : Int) : takenV 5 a b = eqU a b := rfl
theorem taken_6 (a b : Int) : takenV 6 a b = notT eqU a b := rfl
theorem taken_7 (a b : Int) : takenV 7 a b = ltS a b := rfl
theorem taken_8 (a b : Int) : takenV 8 a b = notT ltS a b := rfl
theorem taken_9 (a b : Int) : takenV 9 a b = ltU a b := rfl
theorem taken_10 (a b : Int) : takenV 10 a b = notT ltU a b := rfl

/-! ### Bits -/
theorem low_and (a b : Nat) : (decide ((a &&& b) % 2 = 1)) = (decide (a % 2 = 1) && decide (b % 2 = 1)) := by
  rw [← Nat.testBit_zero, ← Nat.testBit_zero, ← Nat.testBit_zero, Nat.testBit_and]
theorem low_or (a b : Nat) : (decide ((a ||| b) % 2 = 1)) = (decide (a % 2 = 1) || decide (b % 2 = 1)) := by
  rw [← Nat.testBit_zero, ← Nat.testBit_zero, ← Nat.testBit_zero, Nat.testBit_or]
theorem low_and' (a b : Nat) : ((a &&& b) % 2 = 1) ↔ (a % 2 = 1 ∧ b % 2 = 1) := by
  rw [← decide_eq_true_iff (p := (a &&& b) % 2 = 1), low_and, Bool.and_eq_true, decide_eq_true_iff, decide_eq_true_iff]
theorem low_or' (a b : Nat) : ((a ||| b) % 2 = 1) ↔ (a % 2 = 1 ∨ b % 2 = 1) := by
  rw [← decide_eq_true_iff (p := (a ||| b) % 2 = 1), low_or, Bool.or_eq_true, decide_eq_true_iff, decide_eq_true_iff]
theorem nat_and_or (a b : Nat) : (a &&& b) + (a ||| b) = a + b := by
  induction a using Nat.strongRecOn generalizing b with
  | _ a ih =>
    by_cases h : a = 0
    · subst h; simp
    · have e1 := Nat.and_div_two (a := a) (b := b)
      have e2 := Nat.or_div_two (a := a) (b := b)
      have e3 := ih (a / 2) (by omega) (b / 2)
      have m1 := low_and' a b
      have m2 := low_or' a b
      omega
theorem B64.nat {a : Int} (h : B64 a) : ∃ n : Nat, a = n ∧ n < 18446744073709551616 := ⟨a.toNat, by have := h.1; omega, by have := h.2; omega⟩
theorem xorV_nat (x y : Nat) (hx : x < 18446744073709551616) (hy : y < 18446744073709551616) : xorV x y = ((x ^^^ y : Nat) : Int) := by
  unfold xorV; rw [u64_xor _ _ (by omega) (by omega) (by omega) (by omega)]; simp
theorem orV_nat (x y : Nat) (hx : x < 18446744073709551616) (hy : y < 18446744073709551616) : orV x y = ((x ||| y : Nat) : Int) := by
  unfold orV; rw [u64_or _ _ (by omega) (by omega) (by omega) (by omega)]; simp
theorem andV_nat (x y : Nat) (hx : x < 18446744073709551616) (hy : y < 18446744073709551616) : andV x y = ((x &&& y : Nat) : Int) := by
  unfold andV; rw [u64_and _ _ (by omega) (by omega) (by omega) (by omega)]; simp
theorem and_or (a b : Int) (ha : B64 a) (hb : B64 b) : andV a b + orV a b = a + b := by
  obtain ⟨x, rfl, hx⟩ := ha.nat
  obtain ⟨y, rfl, hy⟩ := hb.nat
  rw [andV_nat x y hx hy, orV_nat x y hx hy]
  have := nat_and_or x y
  omega
theorem xor_xor (a b : Int) (ha : B64 a) (hb : B64 b) : xorV (xorV a b) b = a := by
  obtain ⟨x, rfl, hx⟩ := ha.nat
  obtain ⟨y, rfl, hy⟩ := hb.nat
  have h := Nat.xor_lt_two_pow (n := 64) hx hy
  rw [xorV_nat x y hx hy, xorV_nat _ y h hy, Nat.xor_assoc, Nat.xor_self, Nat.xor_zero]
theorem nat_top (x : Nat) (hx : x < 9223372036854775808) : x ^^^ 9223372036854775808 = x + 9223372036854775808 := by
  have h : 2 ^ 63 * 1 + x = 2 ^ 63 * 1 ||| x := Nat.two_pow_add_eq_or_of_lt (i := 63) hx 1
  rw [show 2 ^ 63 * 1 = 9223372036854775808 from rfl] at h
  have e := nat_and_or x 9223372036854775808
  rw [Nat.or_comm] at h
  have z : x &&& 9223372036854775808 = 0 := by omega
  have k : x ^^^ 9223372036854775808 = x ||| 9223372036854775808 := by
    apply Nat.eq_of_testBit_eq
    intro i
    have t := congrArg (fun n => n.testBit i) z
    simp only [Nat.testBit_and, Nat.zero_testBit] at t
    rw [Nat.testBit_xor, Nat.testBit_or]
    cases h1 : x.testBit i <;> cases h2 : (9223372036854775808 : Nat).testBit i <;> simp_all
  omega
theorem xor_top (a : Int) (ha : B64 a) : bits .xor .u64 a 9223372036854775808 = (a + 9223372036854775808) % 18446744073709551616 := by
  obtain ⟨x, rfl, hx⟩ := ha.nat
  have h := xorV_nat x 9223372036854775808 hx (by omega)
  unfold xorV at h
  rw [show ((9223372036854775808 : Nat) : Int) = 9223372036854775808 from rfl] at h
  rw [h]
  by_cases c : x < 9223372036854775808
  · rw [nat_top x c]; omega
  · obtain ⟨r, rfl⟩ : ∃ r, x = r + 9223372036854775808 := ⟨x - 9223372036854775808, by omega⟩
    rw [← nat_top r (by omega), Nat.xor_assoc, Nat.xor_self, Nat.xor_zero, nat_top r (by omega)]
    omega
theorem less_turned (a b : Int) (ha : B64 a) (hb : B64 b) : ltU (bits .xor .u64 a 9223372036854775808) (bits .xor .u64 b 9223372036854775808) = ltS a b := by
  rw [xor_top a ha, xor_top b hb]
  unfold ltU ltS B64 at *
  rw [w64_def, w64_def]
  exact decide_eq_decide.2 (by omega)

/-! ### Halves -/
def half14 : List Int := [41, 42, 43, 44, 45, 46, 47, 48, 49, 58, 59, 60, 61, 62]
def Sm (y : Int) : Prop := ∃ z, -2147483648 ≤ z ∧ z ≤ 2147483647 ∧ y = IntKind.u64.wrap z
theorem sm_low (x : Int) : Sm (lowS x) := ⟨wrap32 x, by have := w32_bd x; omega, by have := w32_bd x; omega, by unfold lowS; rw [sextV_32]⟩
theorem sm_div (a b : Int) (s : Bool) : Sm (div32V a b s) := by
  unfold div32V
  split
  · unfold quoS32
    split
    · exact ⟨-1, by omega, by omega, rfl⟩
    · exact ⟨_, (w32_bd _).1, (w32_bd _).2, rfl⟩
  · exact sm_low _
theorem tmod_in (x y : Int) (hx : -2147483648 ≤ x ∧ x ≤ 2147483647) (hy : -2147483648 ≤ y ∧ y ≤ 2147483647) (h : y ≠ 0) : -2147483648 ≤ x.tmod y ∧ x.tmod y ≤ 2147483647 := by
  have h2 : (x.tmod y).natAbs < y.natAbs := by rw [Int.natAbs_tmod]; exact Nat.mod_lt _ (by omega)
  omega
theorem sm_rem (a b : Int) (s : Bool) : Sm (rem32V a b s) := by
  unfold rem32V
  split
  · unfold remS
    split
    · exact ⟨_, (w32_bd _).1, (w32_bd _).2, rfl⟩
    · rename_i h
      have := tmod_in (wrap32 a) (wrap32 b) (w32_bd _) (w32_bd _) h
      exact ⟨_, this.1, this.2, rfl⟩
  · exact sm_low _
theorem half_sm (o : Int) (ho : o ∈ half14) (a b : Int) : Sm (doV o a b) := by
  simp only [half14, List.mem_cons, List.not_mem_nil, or_false] at ho
  rcases ho with rfl | rfl | rfl | rfl | rfl | rfl | rfl | rfl | rfl | rfl | rfl | rfl | rfl | rfl
  · rw [do_41]; exact sm_low _
  · rw [do_42]; exact sm_low _
  · rw [do_43]; exact sm_low _
  · rw [do_44]; exact sm_low _
  · rw [do_45]; exact sm_low _
  · rw [do_46]; exact sm_low _
  · rw [do_47]; exact sm_low _
  · rw [do_48]; exact sm_low _
  · rw [do_49]; exact sm_low _
  · rw [do_58]; exact sm_low _
  · rw [do_59]; exact sm_div a b true
  · rw [do_60]; exact sm_div a b false
  · rw [do_61]; exact sm_rem a b true
  · rw [do_62]; exact sm_rem a b false
theorem low_cong (x y : Int) (h : x % 4294967296 = y % 4294967296) : lowS x = lowS y := sextV_cong x y h
theorem half_cong (o : Int) (ho : o ∈ half14) (a b c d : Int) (h1 : c % 4294967296 = a % 4294967296) (h2 : d % 4294967296 = b % 4294967296) : doV o c d = doV o a b := by
  have hs : ∀ k, sh32V lowV k c d = sh32V lowV k a b := fun k => by
    unfold sh32V lowV; rw [h1, show d % 32 = b % 32 by omega]
  have ht : sh32V lowS 2 c d = sh32V lowS 2 a b := by
    unfold sh32V; rw [low_cong c a h1, show d % 32 = b % 32 by omega]
  have hp : lowerV sumV c d = lowerV sumV a b := low_cong _ _ (by unfold sumV; rw [u64_eq, u64_eq]; omega)
  have hm : lowerV difV c d = lowerV difV a b := low_cong _ _ (by unfold difV; rw [u64_eq, u64_eq]; omega)
  have hx : lowerV mulV c d = lowerV mulV a b := low_cong _ _ (by
    unfold mulV; rw [u64_mod32, u64_mod32, ← d_mul, ← d_mul', h1, h2, d_mul', d_mul])
  simp only [half14, List.mem_cons, List.not_mem_nil, or_false] at ho
  rcases ho with rfl | rfl | rfl | rfl | rfl | rfl | rfl | rfl | rfl | rfl | rfl | rfl | rfl | rfl
  · rw [do_41, do_41]; exact hp
  · rw [do_42, do_42]; exact hs 0
  · rw [do_43, do_43]; exact hs 1
  · rw [do_44, do_44]; exact ht
  · rw [do_45, do_45]; exact hp
  · rw [do_46, do_46]; exact hm
  · rw [do_47, do_47]; exact hs 0
  · rw [do_48, do_48]; exact hs 1
  · rw [do_49, do_49]; exact ht
  · rw [do_58, do_58]; exact hx
  · rw [do_59, do_59]; exact div32V_cong a b c d true h1 h2
  · rw [do_60, do_60]; exact div32V_cong a b c d false h1 h2
  · rw [do_61, do_61]; exact rem32V_cong a b c d true h1 h2
  · rw [do_62, do_62]; exact rem32V_cong a b c d false h1 h2
theorem sm_cases {y : Int} (h : Sm y) : (B64 y ∧ y / 4294967296 = 0 ∧ bits .and .u64 (y / 2147483648) 1 = 0) ∨ (B64 y ∧ y / 4294967296 = 4294967295 ∧ bits .and .u64 (y / 2147483648) 1 = 1) := by
  obtain ⟨z, h1, h2, rfl⟩ := h
  rw [u64_eq]
  have hb : 0 ≤ z % 18446744073709551616 / 2147483648 ∧ z % 18446744073709551616 / 2147483648 ≤ 18446744073709551615 := by omega
  rw [and_one _ hb]
  unfold B64
  omega

/-! ### What is multiplied and divided -/
theorem back32 (a b : Int) (ha : B64 a) (hb : B64 b) : doV 45 (doV 58 (doV 59 a b) b) (doV 61 a b) = doV 41 a 0 := by
  show lowS (sumV (lowS (mulV (div32V a b true) b)) (rem32V a b true)) = lowS (sumV a 0)
  have e := div32S_back a b
  rw [show lowS (sumV a 0) = sextV a 32 from sextV_cong _ _ (by unfold sumV; rw [u64_eq]; omega), ← e]
  apply sextV_cong
  unfold sumV mulV lowS
  have f := sextV_mod (IntKind.u64.wrap (div32V a b true * b))
  generalize sextV (IntKind.u64.wrap (div32V a b true * b)) 32 = p at *
  generalize IntKind.u64.wrap (div32V a b true * b) = q at *
  rw [u64_eq, u64_eq]
  omega
theorem high_half (a b : Int) (ha : B64 a) (hb : B64 b) : (a / 9223372036854775808 = 1 → IntKind.u64.wrap (doV 52 a b + b) = doV 53 a b) ∧ (a / 9223372036854775808 ≠ 1 → doV 52 a b = doV 53 a b) := by
  show (a / 9223372036854775808 = 1 → IntKind.u64.wrap (highV a b true false + b) = highV a b false false) ∧ (a / 9223372036854775808 ≠ 1 → highV a b true false = highV a b false false)
  have h := hi_bd a b ha hb
  unfold highV B64 at *
  generalize a * b / 18446744073709551616 = p at *
  simp only [u64_eq, Bool.false_eq_true, false_and, true_and, if_false]
  by_cases c : 9223372036854775808 ≤ a
  · rw [if_pos c]; omega
  · rw [if_neg c]; omega
theorem high_signed (a b : Int) (ha : B64 a) (hb : B64 b) : (b / 9223372036854775808 = 1 → IntKind.u64.wrap (doV 51 a b + a) = doV 52 a b) ∧ (b / 9223372036854775808 ≠ 1 → doV 51 a b = doV 52 a b) := by
  show (b / 9223372036854775808 = 1 → IntKind.u64.wrap (highV a b true true + a) = highV a b true false) ∧ (b / 9223372036854775808 ≠ 1 → highV a b true true = highV a b true false)
  have h := hi_bd a b ha hb
  unfold highV B64 at *
  generalize a * b / 18446744073709551616 = p at *
  simp only [u64_eq, Bool.false_eq_true, false_and, true_and, if_false]
  by_cases d : 9223372036854775808 ≤ b
  · rw [if_pos d]; split <;> omega
  · rw [if_neg d]; split <;> omega

/-! ### Shifts -/
theorem sh_arith (a b : Int) (ha : B64 a) : shV 2 a b / 9223372036854775808 = a / 9223372036854775808 := by
  unfold shV shiftV
  rw [if_neg (by omega), if_neg (by omega), if_pos rfl, u64_eq]
  have h := wdiv_bd a (b % 64 % 64).toNat
  have hp := pow_pos' (b % 64 % 64).toNat
  have e : wrap64 a / 2 ^ (b % 64 % 64).toNat < 0 ↔ wrap64 a < 0 := by
    constructor
    · intro h0
      by_cases c : 0 ≤ wrap64 a
      · have := Int.ediv_nonneg c (Int.le_of_lt hp); omega
      · omega
    · intro h0
      exact Int.ediv_neg_of_neg_of_pos h0 hp
  have w := w64_def a
  generalize wrap64 a / 2 ^ (b % 64 % 64).toNat = q at *
  unfold B64 at ha
  omega
theorem sh_right (a b : Int) : shV 1 a b = a / 2 ^ (b % 64).toNat := by
  unfold shV shiftV
  rw [if_neg (by omega), if_pos rfl, show b % 64 % 64 = b % 64 by omega]
theorem sh_round (a b k : Int) : shV k a (b % 64) = shV k a b := by
  unfold shV; rw [show b % 64 % 64 = b % 64 by omega]
end Go.Proofs.Ytgcjefgblodfmaa.A
end
