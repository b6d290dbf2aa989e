/-
  Plain mathematics of layer 10, on: bits that are set and cleared; what follows of who may do what.
  Conditions: none; nothing here speaks of the program.
-/
import Derived.Test.YtecpghenjannhaaPteV
namespace Go.Proofs.Ytecpghenjannhaa.P
open Go Go.RowKit W D A
set_option linter.unusedVariables false

theorem or_one (k : Nat) (p : Int) (hp : p = ((2 ^ k : Nat) : Int)) (hk : k < 64) (e : Int) (he : B64 e) : bits .or .u64 e p = e + p - e / p % 2 * p := by
  have hb : (2 : Nat) ^ k < 2 ^ 64 := Nat.pow_lt_pow_right (by omega) hk
  have hpb : B64 p := by
    subst hp
    generalize (2 : Nat) ^ k = q at *
    unfold B64; omega
  have h := and_or e p he hpb
  have g := one_bit k p hp hk e he
  unfold andV orV at h
  rw [g] at h
  generalize e / p % 2 * p = t at *
  omega
theorem not_one (k : Nat) (p : Int) (hp : p = ((2 ^ k : Nat) : Int)) (hk : k < 64) (e : Int) (he : B64 e) : bits .andNot .u64 e p = e - e / p % 2 * p := by
  obtain ⟨x, rfl, hx⟩ := he.nat
  have hb : (2 : Nat) ^ k < 2 ^ 64 := Nat.pow_lt_pow_right (by omega) hk
  have g := one_bit k p hp hk x he
  subst hp
  have hn := and_nat x (2 ^ k) hx (by omega)
  rw [hn] at g
  rw [u64_andNot_nat x (2 ^ k) hx (by omega)]
  have hy : ∀ i, (x &&& (18446744073709551615 - 2 ^ k)).testBit i = (x.testBit i && !(2 ^ k).testBit i) := fun i => by
    rw [Nat.testBit_and]
    by_cases hi : i < 64
    · have h := Nat.testBit_two_pow_sub_succ (n := 64) (x := 2 ^ k) hb i
      rw [show 18446744073709551615 - 2 ^ k = 2 ^ 64 - (2 ^ k + 1) by omega, h]
      simp [hi]
    · rw [high_off hx hi]; rfl
  have a := nat_and_or (x &&& 2 ^ k) (x &&& (18446744073709551615 - 2 ^ k))
  have z : (x &&& 2 ^ k) &&& (x &&& (18446744073709551615 - 2 ^ k)) = 0 := Nat.eq_of_testBit_eq fun i => by
    rw [Nat.testBit_and, hy, Nat.testBit_and, Nat.zero_testBit]
    cases x.testBit i <;> cases ((2 : Nat) ^ k).testBit i <;> rfl
  have o : (x &&& 2 ^ k) ||| (x &&& (18446744073709551615 - 2 ^ k)) = x := Nat.eq_of_testBit_eq fun i => by
    rw [Nat.testBit_or, hy, Nat.testBit_and]
    cases x.testBit i <;> cases ((2 : Nat) ^ k).testBit i <;> rfl
  omega
theorem bt_true {e p : Int} : bt e p = true ↔ e / p % 2 = 1 := by unfold bt; exact decide_eq_true_iff
theorem bt_false {e p : Int} : bt e p = false ↔ ¬ e / p % 2 = 1 := by unfold bt; exact decide_eq_false_iff_not

/-! ### Leaves, tables -/
theorem no_both {e : Int} : leafV e = true → tableV e = false := by
  unfold leafV tableV
  cases validV e <;> cases bt e 2 <;> cases bt e 4 <;> cases bt e 8 <;> simp
theorem leaf_valid {e : Int} (h : leafV e = true) : validV e = true := by unfold leafV at h; simp only [Bool.and_eq_true] at h; exact h.1
theorem table_valid {e : Int} (h : tableV e = true) : validV e = true := by unfold tableV at h; simp only [Bool.and_eq_true] at h; exact h.1
theorem may_parts {e k p s : Int} (h : mayV e k p s = true) : leafV e = true ∧ bt e 64 = true ∧ byKindV e k s = true ∧ byPrivV e k p s = true := by
  unfold mayV at h; simp only [Bool.and_eq_true] at h; exact ⟨h.1.1.1, h.1.1.2, h.1.2, h.2⟩
theorem user_bit {e k s : Int} (h : byPrivV e k 0 s = true) : bt e 16 = true := h
theorem super_bit {e k s : Int} (h : byPrivV e k 1 s = true) : bt e 16 = false ∨ k ≠ 0 ∧ bt s 262144 = true := by
  unfold byPrivV at h
  rw [if_neg (by decide), if_pos rfl] at h
  by_cases hc : (decide (k ≠ 0) && bt s 262144) = true
  · right; simpa using hc
  · rw [if_neg hc] at h; left; simpa using h
theorem both_bit {e k s : Int} (hu : byPrivV e k 0 s = true) (hs : byPrivV e k 1 s = true) : k ≠ 0 ∧ bt s 262144 = true := by
  rcases super_bit hs with h | h
  · rw [user_bit hu] at h; cases h
  · exact h
theorem store_bits {e s : Int} (h : byKindV e 2 s = true) : bt e 4 = true ∧ bt e 128 = true := by
  unfold byKindV at h; simpa using h
theorem more_lets {e k s s' : Int} (h : mayV e k 1 s = true) (h1 : bt s' 262144 = true) (h2 : bt s' 524288 = true) : mayV e k 1 s' = true := by
  obtain ⟨a, b, c, d⟩ := may_parts h
  have c' : byKindV e k s' = true := by
    unfold byKindV at c ⊢
    rw [h2, if_pos rfl]
    by_cases k0 : k = 0
    · rw [if_pos k0] at c ⊢; exact c
    · rw [if_neg k0] at c ⊢
      by_cases k1 : k = 1
      · rw [if_pos k1] at c ⊢
        split at c
        · exact c
        · rw [c]; rfl
      · rw [if_neg k1] at c ⊢; exact c
  have d' : byPrivV e k 1 s' = true := by
    unfold byPrivV
    rw [if_neg (by decide), if_pos rfl, h1, Bool.and_true]
    by_cases k0 : k = 0
    · rw [if_neg (by simpa using k0)]
      rcases super_bit d with h | h
      · rw [h]; rfl
      · exact absurd k0 h.1
    · rw [if_pos (by simpa using k0)]
  unfold mayV
  rw [a, b, c', d']; rfl
/-- A status with Sum and Mxr. -/
def moreS (s : Int) : Int := bits .or .u64 (bits .or .u64 s 262144) 524288
theorem moreS_all (s : Int) (hs : B64 s) : B64 (bits .or .u64 s 262144) ∧ B64 (moreS s) ∧ bt (moreS s) 262144 = true ∧ bt (moreS s) 524288 = true := by
  have e1 := or_one 18 262144 rfl (by omega) s hs
  have b1 : B64 (bits .or .u64 s 262144) := by rw [e1]; unfold B64 at *; omega
  have e2 := or_one 19 524288 rfl (by omega) _ b1
  have e3 : moreS s = bits .or .u64 s 262144 + 524288 - bits .or .u64 s 262144 / 524288 % 2 * 524288 := e2
  rw [e1] at e3
  have b1' := b1
  rw [e1] at b1'
  refine ⟨b1, ?_, ?_, ?_⟩
  · rw [e3]; unfold B64 at *; omega
  · rw [bt_true, e3]; unfold B64 at *; omega
  · rw [bt_true, e3]; unfold B64 at *; omega
/-- What PteApart asks for. -/
theorem apart {e k s : Int} (he : B64 e) (hs : B64 s) :
    (leafV e = true → tableV e = false) ∧ (leafV e = true → validV e = true) ∧ (tableV e = true → validV e = true) ∧
    (mayV e k 0 s = true → leafV e = true ∧ bits .and .u64 e 64 = 64 ∧ bits .and .u64 e 16 = 16) ∧
    (mayV e k 1 s = true → leafV e = true ∧ bits .and .u64 e 64 = 64 ∧ mayV e k 1 (moreS s) = true) ∧
    (mayV e k 0 s = true → mayV e k 1 s = true → k ≠ 0 ∧ bits .and .u64 s 262144 = 262144) ∧
    (mayV e k 0 s = true → k = 2 → bits .and .u64 e 4 = 4 ∧ bits .and .u64 e 128 = 128) ∧
    (mayV e k 1 s = true → k = 0 → bits .and .u64 e 16 = 0) := by
  refine ⟨no_both, leaf_valid, table_valid, fun h => ?_, fun h => ?_, fun hu hv => ?_, fun h hk => ?_, fun h hk => ?_⟩
  · obtain ⟨a, b, c, d⟩ := may_parts h
    refine ⟨a, ?_, ?_⟩
    · rw [a64 e he, bt_true.1 b]; rfl
    · rw [a16 e he, bt_true.1 (user_bit d)]; rfl
  · obtain ⟨a, b, c, d⟩ := may_parts h
    refine ⟨a, ?_, more_lets h (moreS_all s hs).2.2.1 (moreS_all s hs).2.2.2⟩
    rw [a64 e he, bt_true.1 b]; rfl
  · obtain ⟨_, _, _, d⟩ := may_parts hu
    obtain ⟨_, _, _, d'⟩ := may_parts hv
    have := both_bit d d'
    refine ⟨this.1, ?_⟩
    rw [aSum s hs, bt_true.1 this.2]; rfl
  · subst hk
    obtain ⟨_, _, c, _⟩ := may_parts h
    have := store_bits c
    rw [a4 e he, a128 e he, bt_true.1 this.1, bt_true.1 this.2]; exact ⟨rfl, rfl⟩
  · subst hk
    obtain ⟨_, _, _, d⟩ := may_parts h
    rcases super_bit d with hb | hb
    · rw [a16 e he]
      have := bt_false.1 hb
      omega
    · exact absurd rfl hb.1

/-! ### What PteFaults asks for -/
theorem off_valid {e : Int} (he : B64 e) : B64 (bits .andNot .u64 e 1) ∧ validV (bits .andNot .u64 e 1) = false := by
  rw [not_one 0 1 rfl (by omega) e he]
  refine ⟨by unfold B64 at *; omega, ?_⟩
  have : bt (e - e / 1 % 2 * 1) 1 = false := bt_false.2 (by omega)
  unfold validV
  rw [this]; rfl
theorem leaf_not {e : Int} (h : validV e = false) : leafV e = false := by unfold leafV; rw [h]; rfl
theorem table_not {e : Int} (h : validV e = false) : tableV e = false := by unfold tableV; rw [h]; rfl
theorem high_valid {e : Int} (he : B64 e) (j : Nat) (hj : 54 ≤ j ∧ j ≤ 63) : B64 (bits .or .u64 e (2 ^ j)) ∧ validV (bits .or .u64 e (2 ^ j)) = false := by
  have hp : ((2 : Int) ^ j) = ((2 ^ j : Nat) : Int) := (Int.natCast_pow 2 j).symm
  rw [or_one j (2 ^ j) hp (by omega) e he]
  have hd : ¬ (e + 2 ^ j - e / 2 ^ j % 2 * 2 ^ j) / 18014398509481984 = 0 ∧ B64 (e + 2 ^ j - e / 2 ^ j % 2 * 2 ^ j) := by
    unfold B64 at *
    rcases (show j = 54 ∨ j = 55 ∨ j = 56 ∨ j = 57 ∨ j = 58 ∨ j = 59 ∨ j = 60 ∨ j = 61 ∨ j = 62 ∨ j = 63 by omega) with rfl | rfl | rfl | rfl | rfl | rfl | rfl | rfl | rfl | rfl <;> omega
  refine ⟨hd.2, ?_⟩
  unfold validV
  rw [decide_eq_false hd.1, Bool.and_false]
def oddV (e : Int) : Int := bits .or .u64 (bits .or .u64 (bits .andNot .u64 e 2) 4) 1
theorem odd_valid {e : Int} (he : B64 e) : B64 (bits .andNot .u64 e 2) ∧ B64 (bits .or .u64 (bits .andNot .u64 e 2) 4) ∧ B64 (oddV e) ∧ validV (oddV e) = false := by
  have e1 := not_one 1 2 rfl (by omega) e he
  have b1 : B64 (bits .andNot .u64 e 2) := by rw [e1]; unfold B64 at *; omega
  have e2 := or_one 2 4 rfl (by omega) _ b1
  have b2 : B64 (bits .or .u64 (bits .andNot .u64 e 2) 4) := by rw [e2]; unfold B64 at *; omega
  have e3 : oddV e = _ := or_one 0 1 rfl (by omega) _ b2
  rw [e2, e1] at e3
  rw [e1] at b1
  unfold B64 at *
  have x2 : bt (oddV e) 2 = false := bt_false.2 (by omega)
  have x4 : bt (oddV e) 4 = true := bt_true.2 (by omega)
  refine ⟨by rw [e1]; exact b1, b2, by omega, ?_⟩
  unfold validV
  rw [x2, x4, Bool.not_true, Bool.or_false, Bool.and_false, Bool.false_and]
theorem fresh_may {e k p s : Int} (he : B64 e) : B64 (bits .andNot .u64 e 64) ∧ mayV (bits .andNot .u64 e 64) k p s = false := by
  rw [not_one 6 64 rfl (by omega) e he]
  refine ⟨by unfold B64 at *; omega, ?_⟩
  have : bt (e - e / 64 % 2 * 64) 64 = false := bt_false.2 (by omega)
  unfold mayV
  rw [this, Bool.and_false, Bool.false_and, Bool.false_and]
theorem clean_may {e p s : Int} (he : B64 e) : B64 (bits .andNot .u64 e 128) ∧ mayV (bits .andNot .u64 e 128) 2 p s = false := by
  rw [not_one 7 128 rfl (by omega) e he]
  refine ⟨by unfold B64 at *; omega, ?_⟩
  have : bt (e - e / 128 % 2 * 128) 128 = false := bt_false.2 (by omega)
  have hk : byKindV (e - e / 128 % 2 * 128) 2 s = false := by
    unfold byKindV
    rw [if_neg (by decide), if_neg (by decide), if_pos rfl, this, Bool.and_false]
  unfold mayV
  rw [hk, Bool.and_false, Bool.false_and]
theorem may_within {e k p s : Int} (h : mayV e k p s = true) : (0 ≤ k ∧ k ≤ 2) ∧ 0 ≤ p ∧ p ≤ 1 := by
  obtain ⟨_, _, c, d⟩ := may_parts h
  constructor
  · apply Classical.byContradiction
    intro hk
    unfold byKindV at c
    rw [if_neg (by omega), if_neg (by omega), if_neg (by omega)] at c
    cases c
  · apply Classical.byContradiction
    intro hp
    unfold byPrivV at d
    rw [if_neg (by omega), if_neg (by omega)] at d
    cases d
end Go.Proofs.Ytecpghenjannhaa.P
