/-
  Plain mathematics of memory, on: what was put is got; all of memory; a byte's lowest bits.
  Conditions: none beyond the lemmas' own.
-/
import Derived.WalkKit
import Derived.Test.YtkfmcbhoendocaaLayR
namespace Go.Proofs.Ytkfmcbhoendocaa.M
open Go Go.RowKit
set_option linter.unusedVariables false

theorem getput (bs : List Int) (a n x : Int) (h : okB bs.length a n = true) : getV (putV bs a n x) a n = x % 256 ^ n.toNat := by
  have h1 := (has_off (ok_of h).2).2
  rw [getV, if_pos (by rw [putV_length]; exact h), putV, if_pos h]
  have e := splice_self bs (offV a) (toB n.toNat x) (by rw [toB_length]; exact h1)
  rw [toB_length] at e
  rw [e, leV_toB]
theorem getput8 (bs : List Int) (a x : Int) (h : okB bs.length a 8 = true) (hx : 0 ≤ x ∧ x ≤ 18446744073709551615) : getV (putV bs a 8 x) a 8 = x := by
  rw [getput bs a 8 x h, show (8 : Int).toNat = 8 from rfl]
  omega
theorem toB_add : ∀ (m n : Nat) (x : Int), toB (m + n) x = toB m x ++ toB n (x / 256 ^ m)
  | 0, n, x => by simp [toB]
  | m + 1, n, x => by
    rw [Nat.add_right_comm, toB, toB, toB_add m n, List.cons_append, Int.ediv_ediv_of_nonneg (by omega), Int.pow_succ, Int.mul_comm (256 ^ m) 256]
theorem part8 (bs : List Int) (f : Nat) (x : Int) (h : f + 8 ≤ bs.length) :
    ((splice bs f (toB 8 x)).drop f).take 4 = toB 4 x ∧ ((splice bs f (toB 8 x)).drop (f + 4)).take 4 = toB 4 (x / 256 ^ 4) := by
  have e := splice_self bs f (toB 8 x) (by rw [toB_length]; exact h)
  rw [toB_length] at e
  have s := toB_add 4 4 x
  constructor
  · have : ((splice bs f (toB 8 x)).drop f).take 4 = (((splice bs f (toB 8 x)).drop f).take 8).take 4 := by rw [List.take_take]; rfl
    rw [this, e, s, List.take_left' (toB_length 4 x)]
  · have : ((splice bs f (toB 8 x)).drop (f + 4)).take 4 = (((splice bs f (toB 8 x)).drop f).take 8).drop 4 := by rw [List.drop_take, List.drop_drop]
    rw [this, e, s, List.drop_left' (toB_length 4 x)]
theorem put8 (bs : List Int) (f : Nat) (x : Int) (h : f + 8 ≤ bs.length) : putV bs (2147483648 + (f : Int)) 8 x = splice bs f (toB 8 x) := by
  rw [putV, if_pos (by simp [okB, widB, hasB]; omega), show offV (2147483648 + (f : Int)) = f from by unfold offV; omega]; rfl
theorem get4 (bs : List Int) (f : Nat) (x : Int) (h : f + 8 ≤ bs.length) (hx : 0 ≤ x ∧ x ≤ 18446744073709551615) :
    getV (splice bs f (toB 8 x)) (2147483648 + (f : Int)) 4 = x % 4294967296 ∧ getV (splice bs f (toB 8 x)) (2147483648 + (f : Int) + 4) 4 = x / 4294967296 := by
  have hl : (splice bs f (toB 8 x)).length = bs.length := splice_length _ _ _ (by rw [toB_length]; exact h)
  have hp := part8 bs f x h
  constructor
  · rw [getV, if_pos (by rw [hl]; simp [okB, widB, hasB]; omega), show offV (2147483648 + (f : Int)) = f from by unfold offV; omega, show (4 : Int).toNat = 4 from rfl, hp.1, leV_toB]
    rfl
  · rw [getV, if_pos (by rw [hl]; simp [okB, widB, hasB]; omega), show offV (2147483648 + (f : Int) + 4) = f + 4 from by unfold offV; omega, show (4 : Int).toNat = 4 from rfl, hp.2, leV_toB]
    omega
theorem off_base : offV 2147483648 = 0 := rfl
theorem off_add (t : Nat) : offV (2147483648 + (t : Int)) = t := by unfold offV; omega
theorem has_all (L : Nat) : hasB L 2147483648 L = true := by simp [hasB]
theorem part_all (bs : List Int) : (bs.drop (offV 2147483648)).take ((bs.length : Int)).toNat = bs := by
  rw [off_base, List.drop_zero, Int.toNat_natCast, List.take_length]
theorem ok_add (L t : Nat) (n : Int) (hn : widB n = true) (h : (t : Int) + n ≤ L) : okB L (2147483648 + (t : Int)) n = true := by
  have := wid_of hn
  simp only [okB, hn, Bool.true_and, hasB, decide_eq_true_eq]
  omega
theorem and_low (a : Int) (k m : Nat) (ha : 0 ≤ a ∧ a ≤ 255) (hm : m = 2 ^ k - 1) (hk : k ≤ 8) : bits .and .u8 a (m : Int) = a % 2 ^ k := by
  obtain ⟨n, rfl⟩ : ∃ n : Nat, a = n := ⟨a.toNat, by omega⟩
  have h8 : (2 : Nat) ^ k ≤ 2 ^ 8 := Nat.pow_le_pow_right (by omega) hk
  have hp : 0 < 2 ^ k := Nat.two_pow_pos k
  show IntKind.u8.wrap (((BitVec.ofInt 8 (n : Int) &&& BitVec.ofInt 8 (m : Int)).toNat : Nat) : Int) = _
  rw [BitVec.toNat_and, BitVec.toNat_ofInt, BitVec.toNat_ofInt, IntKind.wrap_u8]
  have ex : ((n : Int) % ((2 ^ 8 : Nat) : Int)).toNat = n := by rw [show (2 : Nat) ^ 8 = 256 from rfl]; omega
  have em : ((m : Int) % ((2 ^ 8 : Nat) : Int)).toNat = m := by rw [show (2 : Nat) ^ 8 = 256 from rfl] at *; omega
  rw [ex, em, hm, Nat.and_two_pow_sub_one_eq_mod]
  have hl : n % 2 ^ k < 2 ^ k := Nat.mod_lt _ hp
  rw [show ((2 : Int) ^ k) = ((2 ^ k : Nat) : Int) from (Int.natCast_pow 2 k).symm, ← Int.natCast_emod]
  rw [show (2 : Nat) ^ 8 = 256 from rfl] at h8
  omega
theorem and_1w (a : Int) (ha : 0 ≤ a ∧ a ≤ 65535) : bits .and .u16 a 1 = a % 2 := by
  obtain ⟨n, rfl⟩ : ∃ n : Nat, a = n := ⟨a.toNat, by omega⟩
  show IntKind.u16.wrap (((BitVec.ofInt 16 (n : Int) &&& BitVec.ofInt 16 ((2 ^ 1 - 1 : Nat) : Int)).toNat : Nat) : Int) = _
  rw [BitVec.toNat_and, BitVec.toNat_ofInt, BitVec.toNat_ofInt, IntKind.wrap_u16]
  have ex : ((n : Int) % ((2 ^ 16 : Nat) : Int)).toNat = n := by rw [show (2 : Nat) ^ 16 = 65536 from rfl]; omega
  rw [ex, show (((2 ^ 1 - 1 : Nat) : Int) % ((2 ^ 16 : Nat) : Int)).toNat = 2 ^ 1 - 1 from rfl, Nat.and_two_pow_sub_one_eq_mod]
  omega
theorem and_3 (a : Int) (ha : 0 ≤ a ∧ a ≤ 255) : bits .and .u8 a 3 = a % 4 := and_low a 2 3 ha rfl (by omega)
theorem and_7 (a : Int) (ha : 0 ≤ a ∧ a ≤ 255) : bits .and .u8 a 7 = a % 8 := and_low a 3 7 ha rfl (by omega)
theorem and_15 (a : Int) (ha : 0 ≤ a ∧ a ≤ 255) : bits .and .u8 a 15 = a % 16 := and_low a 4 15 ha rfl (by omega)
theorem not_u64 (x : Int) (hx : 0 ≤ x ∧ x ≤ 18446744073709551615) : bits .xor .u64 IntKind.u64.max x = 18446744073709551615 - x := by
  show IntKind.u64.wrap (((BitVec.ofInt 64 IntKind.u64.max ^^^ BitVec.ofInt 64 x).toNat : Nat) : Int) = _
  rw [show BitVec.ofInt 64 IntKind.u64.max = BitVec.allOnes 64 from by decide +kernel, BitVec.allOnes_xor, BitVec.toNat_not, BitVec.toNat_ofInt, IntKind.wrap_u64]
  rw [show (2 : Nat) ^ 64 = 18446744073709551616 from rfl]
  omega
end Go.Proofs.Ytkfmcbhoendocaa.M
