/-
  Plain mathematics of layer 11's statements: memory that numbers are written into, one after the other; what may be read off lists of them.
  Conditions: none beyond the lemmas' own.
-/
import Derived.Test.YtkfmcbhoendocaaRamW
import Derived.Test.YtkfmcbhoendocaaLayP
namespace Go.Proofs.Ytkfmcbhoendocaa.K
open Go Go.RowKit M A
set_option linter.unusedVariables false

/-- Where the i-th number goes. -/
def spotV (x : Int) : Int := 2147483648 + x % 65536 / 8 * 8
/-- Memory behind the first k numbers. -/
def fillV (f g : Nat → Int) : Nat → List Int → List Int
  | 0, bs => bs
  | k + 1, bs => putV (fillV f g k bs) (spotV (f k)) 8 (g k)
theorem fill_length (f g : Nat → Int) : ∀ (k : Nat) (bs : List Int), (fillV f g k bs).length = bs.length
  | 0, _ => rfl
  | k + 1, bs => by rw [fillV, putV_length, fill_length f g k]
theorem and_8 (x : Int) (hx : 0 ≤ x ∧ x ≤ 4294967295) : bits .and .u32 x 65528 = x % 65536 / 8 * 8 := by
  obtain ⟨n, rfl⟩ : ∃ n : Nat, x = n := ⟨x.toNat, by omega⟩
  show IntKind.u32.wrap (((BitVec.ofInt 32 (n : Int) &&& BitVec.ofInt 32 ((65528 : Nat) : Int)).toNat : Nat) : Int) = _
  rw [BitVec.toNat_and, BitVec.toNat_ofInt, BitVec.toNat_ofInt, IntKind.wrap_u32]
  have ex : ((n : Int) % ((2 ^ 32 : Nat) : Int)).toNat = n := by rw [show (2 : Nat) ^ 32 = 4294967296 from rfl]; omega
  have e8 : (((65528 : Nat) : Int) % ((2 ^ 32 : Nat) : Int)).toNat = 65528 := by decide
  rw [ex, e8]
  have : n &&& 65528 = n % 65536 / 8 * 8 := by
    have h1 : n &&& 65528 = 8 * ((n / 8) &&& (65528 / 8)) := by
      rw [P.peel n, P.peel (n / 2), P.peel (n / 2 / 2), Nat.div_div_eq_div_mul, Nat.div_div_eq_div_mul]
      simp only [Nat.reduceDiv, Nat.reduceMod, Nat.reduceMul]
      omega
    rw [h1, show (65528 / 8 : Nat) = 2 ^ 13 - 1 from rfl, Nat.and_two_pow_sub_one_eq_mod, show (2 : Nat) ^ 13 = 8192 from rfl]
    omega
  rw [this]
  omega
/-- The numbers of a slice, as functions of the place. -/
theorem pick {n : Nat} {Q : Nat → Int → Int → Prop} (h : ∀ i, i < n → ∃ x y, Q i x y) : ∃ f g : Nat → Int, ∀ i, i < n → Q i (f i) (g i) := by
  refine ⟨fun i => if hi : i < n then (h i hi).choose else 0, fun i => if hi : i < n then (h i hi).choose_spec.choose else 0, fun i hi => ?_⟩
  simp only [dif_pos hi]
  exact (h i hi).choose_spec.choose_spec
end Go.Proofs.Ytkfmcbhoendocaa.K
