/-
  Plain mathematics of layer 4 (decode): words put together of their parts; what they mean.
  Conditions: none; nothing here speaks of the program.
-/
import Derived.Test.YtpbeamnogfjagaaGreatDoorDecV
namespace Go.Proofs.YtpbeamnogfjagaaGreatDoor.D
open Go Go.RowKit F
set_option linter.unusedVariables false

theorem get_div (x l m : Nat) : get x l m = x / 2 ^ l % 2 ^ m := by rw [F.get, Nat.shiftRight_eq_div_pow]
theorem and_mid (x g k m : Nat) (hg : g < 2 ^ m) (h : x / 2 ^ k % 2 ^ m = 0) : x &&& g <<< k = 0 := by
  apply Nat.eq_of_testBit_eq
  intro i
  rw [Nat.testBit_and, Nat.testBit_shiftLeft, Nat.zero_testBit]
  by_cases h1 : k ≤ i
  · by_cases h2 : i - k < m
    · have : (x / 2 ^ k % 2 ^ m).testBit (i - k) = false := by rw [h, Nat.zero_testBit]
      rw [Nat.testBit_mod_two_pow, ← Nat.shiftRight_eq_div_pow, Nat.testBit_shiftRight, Nat.add_sub_cancel' h1] at this
      simp [h2] at this
      simp [this]
    · have : g.testBit (i - k) = false := Nat.testBit_lt_two_pow (Nat.lt_of_lt_of_le hg (Nat.pow_le_pow_right (by omega) (by omega)))
      simp [this]
  · simp [h1]
theorem or_mid (x g k m : Nat) (hg : g < 2 ^ m) (h : x / 2 ^ k % 2 ^ m = 0) (hx : x < 4294967296) (hs : g <<< k < 4294967296) (hs2 : x + g <<< k < 4294967296) : x ||| g <<< k = x + g <<< k := by
  have ha := and_mid x g k m hg h
  have hb := BitVec.add_eq_or_of_and_eq_zero (BitVec.ofNat 32 x) (BitVec.ofNat 32 (g <<< k)) (by
    apply BitVec.eq_of_toNat_eq
    simp only [BitVec.toNat_and, BitVec.toNat_ofNat]
    rw [Nat.mod_eq_of_lt (by omega), Nat.mod_eq_of_lt (by omega), ha])
  have := congrArg BitVec.toNat hb
  simp only [BitVec.toNat_or, BitVec.toNat_add, BitVec.toNat_ofNat] at this
  rw [Nat.mod_eq_of_lt (show x < 2 ^ 32 by omega), Nat.mod_eq_of_lt (show g <<< k < 2 ^ 32 by omega), Nat.mod_eq_of_lt (show x + g <<< k < 2 ^ 32 by omega)] at this
  exact this.symm

/-- A shift's word, put together: the bits of C, two registers, how far. -/
def sw (C a b n : Nat) : Nat := C + a * 128 + b * 32768 + n * 1048576
theorem sw_lt (C a b n : Nat) (hC : C / 128 % 32 = 0 ∧ C / 32768 % 32 = 0 ∧ C / 1048576 % 64 = 0 ∧ C < 2147483648) (ha : a < 32) (hb : b < 32) (hn : n < 64) : sw C a b n < 2147483648 := by
  unfold sw; omega
theorem sw_or (C a b n : Nat) (hC : C / 128 % 32 = 0 ∧ C / 32768 % 32 = 0 ∧ C / 1048576 % 64 = 0 ∧ C < 2147483648) (ha : a < 32) (hb : b < 32) (hn : n < 64) :
    bits .or .u32 (bits .or .u32 (bits .or .u32 (C : Int) ((a : Int) * 128)) ((b : Int) * 32768)) ((n : Int) * 1048576) = (sw C a b n : Nat) := by
  have ea : (a : Int) * (128 : Int) = ((a <<< 7 : Nat) : Int) := by rw [Nat.shiftLeft_eq]; omega
  have eb : (b : Int) * (32768 : Int) = ((b <<< 15 : Nat) : Int) := by rw [Nat.shiftLeft_eq]; omega
  have en : (n : Int) * (1048576 : Int) = ((n <<< 20 : Nat) : Int) := by rw [Nat.shiftLeft_eq]; omega
  have sa : a <<< 7 = a * 128 := Nat.shiftLeft_eq a 7
  have sb : b <<< 15 = b * 32768 := Nat.shiftLeft_eq b 15
  have sn : n <<< 20 = n * 1048576 := Nat.shiftLeft_eq n 20
  have o1 : C ||| a <<< 7 = C + a * 128 := by rw [or_mid C a 7 5 (by omega) (by omega) (by omega) (by omega) (by omega), sa]
  have o2 : (C + a * 128) ||| b <<< 15 = C + a * 128 + b * 32768 := by rw [or_mid _ b 15 5 (by omega) (by omega) (by omega) (by omega) (by omega), sb]
  have o3 : (C + a * 128 + b * 32768) ||| n <<< 20 = sw C a b n := by rw [or_mid _ n 20 6 (by omega) (by omega) (by omega) (by omega) (by omega), sn]; rfl
  rw [ea, eb, en, u32_or_nat _ _ (by omega) (by omega), o1, u32_or_nat _ _ (by omega) (by omega), o2, u32_or_nat _ _ (by omega) (by omega), o3]
/-- .. with another bit beyond. -/
theorem sw_bit (C a b n j : Nat) (hC : C / 128 % 32 = 0 ∧ C / 32768 % 32 = 0 ∧ C / 1048576 % 64 = 0 ∧ C / 67108864 % 16 = 0 ∧ C < 2147483648) (ha : a < 32) (hb : b < 32) (hn : n < 64) (hj : j < 4) :
    bits .or .u32 ((sw C a b n : Nat) : Int) ((2 ^ (26 + j) : Nat) : Int) = ((sw C a b n + 67108864 * 2 ^ j : Nat) : Int) ∧ sw C a b n + 67108864 * 2 ^ j < 4294967296 := by
  have hl := sw_lt C a b n ⟨hC.1, hC.2.1, hC.2.2.1, hC.2.2.2.2⟩ ha hb hn
  have hz : sw C a b n / 67108864 % 16 = 0 := by unfold sw; omega
  have key : ∀ k : Nat, k = 1 ∨ k = 2 ∨ k = 4 ∨ k = 8 → bits .or .u32 ((sw C a b n : Nat) : Int) ((67108864 * k : Nat) : Int) = ((sw C a b n + 67108864 * k : Nat) : Int) ∧ sw C a b n + 67108864 * k < 4294967296 := by
    intro k hk
    have sk : k <<< 26 = k * 67108864 := Nat.shiftLeft_eq k 26
    refine ⟨?_, by omega⟩
    rw [u32_or_nat _ _ (by omega) (by omega), Nat.mul_comm, ← sk, or_mid _ k 26 4 (by omega) (by omega) (by omega) (by omega) (by omega)]
  rcases (show j = 0 ∨ j = 1 ∨ j = 2 ∨ j = 3 by omega) with rfl | rfl | rfl | rfl
  · exact key 1 (by omega)
  · exact key 2 (by omega)
  · exact key 4 (by omega)
  · exact key 8 (by omega)
theorem mean19 (x : Nat) (f t : Int) (hM : get x 0 7 = 19) (h3 : f3 x = f) (hf : f = 1 ∨ f = 5) (h6 : ((get x 26 6 : Nat) : Int) = t) : mean x = (look (tShifts t) f, src x (get x 20 6 : Nat)) := by
  have : mean x = withN x (f3 x) := by simp [mean, hM]
  rw [this, h3, withN, if_pos hf, h6]
theorem mean27 (x : Nat) (f t : Int) (hM : get x 0 7 = 27) (h3 : f3 x = f) (hf : f ≠ 0) (h7 : f7 x = t) : mean x = (look (tShifts32 t) f, src x (get x 20 5 : Nat)) := by
  have : mean x = withN32 x (f3 x) (f7 x) := by simp [mean, hM]
  rw [this, h3, h7, withN32, if_neg hf]
theorem word_of {x : Nat} {o : Int} {p : Parts} (h : mean x = (o, p)) (ho : o ≠ 0) : wordV x = (o, p) := by rw [wordV, h, if_neg ho]
theorem word_no {x : Nat} {o : Int} {p : Parts} (h : mean x = (o, p)) (ho : o = 0) : wordV x = (0, 0, 0, 0, 0) := by rw [wordV, h, if_pos ho]; rfl
/-- What a shift's word is: of 64 bits. -/
theorem sw19 (C a b n : Nat) (f t op : Int) (hC : C / 128 % 32 = 0 ∧ C / 32768 % 32 = 0 ∧ C / 1048576 % 64 = 0 ∧ C < 2147483648) (ha : a < 32) (hb : b < 32) (hn : n < 64)
    (hM : C % 128 = 19) (h3 : ((C / 4096 % 8 : Nat) : Int) = f) (hf : f = 1 ∨ f = 5) (ht : ((C / 67108864 : Nat) : Int) = t) (ho : look (tShifts t) f = op) (h0 : op ≠ 0) :
    wordV (sw C a b n) = (op, (a : Int), (b : Int), 0, (n : Int)) := by
  have g0 : get (sw C a b n) 0 7 = 19 := by rw [get_div]; unfold sw; omega
  have g1 : get (sw C a b n) 12 3 = C / 4096 % 8 := by rw [get_div]; unfold sw; omega
  have g2 : get (sw C a b n) 26 6 = C / 67108864 := by rw [get_div]; unfold sw; omega
  have g3 : get (sw C a b n) 7 5 = a := by rw [get_div]; unfold sw; omega
  have g4 : get (sw C a b n) 15 5 = b := by rw [get_div]; unfold sw; omega
  have g5 : get (sw C a b n) 20 6 = n := by rw [get_div]; unfold sw; omega
  rw [word_of (mean19 _ f t g0 (by rw [f3, g1, h3]) hf (by rw [g2, ht])) (by rw [ho]; exact h0), ho, src, g3, g4, g5]
/-- .. of 32 bits. -/
theorem sw27 (C a b n : Nat) (f t op : Int) (hC : C / 128 % 32 = 0 ∧ C / 32768 % 32 = 0 ∧ C / 1048576 % 64 = 0 ∧ C < 2147483648) (ha : a < 32) (hb : b < 32) (hn : n < 32)
    (hM : C % 128 = 27) (h3 : ((C / 4096 % 8 : Nat) : Int) = f) (hf : f ≠ 0) (ht : ((C / 33554432 : Nat) : Int) = t) (ho : look (tShifts32 t) f = op) (h0 : op ≠ 0) :
    wordV (sw C a b n) = (op, (a : Int), (b : Int), 0, (n : Int)) := by
  have g0 : get (sw C a b n) 0 7 = 27 := by rw [get_div]; unfold sw; omega
  have g1 : get (sw C a b n) 12 3 = C / 4096 % 8 := by rw [get_div]; unfold sw; omega
  have g2 : get (sw C a b n) 25 7 = C / 33554432 := by rw [get_div]; unfold sw; omega
  have g3 : get (sw C a b n) 7 5 = a := by rw [get_div]; unfold sw; omega
  have g4 : get (sw C a b n) 15 5 = b := by rw [get_div]; unfold sw; omega
  have g5 : get (sw C a b n) 20 5 = n := by rw [get_div]; unfold sw; omega
  rw [word_of (mean27 _ f t g0 (by rw [f3, g1, h3]) hf (by rw [f7, g2, ht])) (by rw [ho]; exact h0), ho, src, g3, g4, g5]
theorem no19 (t f : Int) (h0 : t ≠ 0) (h1 : t ≠ 16) : look (tShifts t) f = 0 := by rw [tShifts, if_neg h0, if_neg h1]; rfl
theorem no27 (t f : Int) (h0 : t ≠ 0) (h1 : t ≠ 32) : look (tShifts32 t) f = 0 := by rw [tShifts32, if_neg h0, if_neg h1]; rfl
/-- With another bit beyond it is none. -/
theorem sw19_no (C a b n j : Nat) (hC : C / 128 % 32 = 0 ∧ C / 32768 % 32 = 0 ∧ C / 1048576 % 64 = 0 ∧ C / 67108864 % 16 = 0 ∧ C < 2147483648) (ha : a < 32) (hb : b < 32) (hn : n < 64) (hj : j < 4)
    (hM : C % 128 = 19) (hf : C / 4096 % 8 = 1 ∨ C / 4096 % 8 = 5) : wordV (sw C a b n + 67108864 * 2 ^ j) = (0, 0, 0, 0, 0) := by
  have key : ∀ k : Nat, k = 1 ∨ k = 2 ∨ k = 4 ∨ k = 8 → wordV (sw C a b n + 67108864 * k) = (0, 0, 0, 0, 0) := by
    intro k hk
    have g0 : get (sw C a b n + 67108864 * k) 0 7 = 19 := by rw [get_div]; unfold sw; omega
    have g1 : get (sw C a b n + 67108864 * k) 12 3 = C / 4096 % 8 := by rw [get_div]; unfold sw; omega
    have g2 : get (sw C a b n + 67108864 * k) 26 6 = C / 67108864 + k := by rw [get_div]; unfold sw; omega
    exact word_no (mean19 _ _ _ g0 rfl (by rw [f3, g1]; omega) rfl) (no19 _ _ (by rw [g2]; omega) (by rw [g2]; omega))
  rcases (show j = 0 ∨ j = 1 ∨ j = 2 ∨ j = 3 by omega) with rfl | rfl | rfl | rfl
  · exact key 1 (by omega)
  · exact key 2 (by omega)
  · exact key 4 (by omega)
  · exact key 8 (by omega)
theorem sw27_no (C a b n j : Nat) (hC : C / 128 % 32 = 0 ∧ C / 32768 % 32 = 0 ∧ C / 1048576 % 64 = 0 ∧ C / 67108864 % 16 = 0 ∧ C < 2147483648) (ha : a < 32) (hb : b < 32) (hn : n < 64) (hj : j < 4)
    (hM : C % 128 = 27) (hf : C / 4096 % 8 ≠ 0) : wordV (sw C a b n + 67108864 * 2 ^ j) = (0, 0, 0, 0, 0) := by
  have key : ∀ k : Nat, k = 1 ∨ k = 2 ∨ k = 4 ∨ k = 8 → wordV (sw C a b n + 67108864 * k) = (0, 0, 0, 0, 0) := by
    intro k hk
    have g0 : get (sw C a b n + 67108864 * k) 0 7 = 27 := by rw [get_div]; unfold sw; omega
    have g1 : get (sw C a b n + 67108864 * k) 12 3 = C / 4096 % 8 := by rw [get_div]; unfold sw; omega
    have g2 : get (sw C a b n + 67108864 * k) 25 7 = C / 33554432 + n / 32 + 2 * k := by rw [get_div]; unfold sw; omega
    exact word_no (mean27 _ _ _ g0 rfl (by rw [f3, g1]; omega) rfl) (no27 _ _ (by rw [f7, g2]; omega) (by rw [f7, g2]; omega))
  rcases (show j = 0 ∨ j = 1 ∨ j = 2 ∨ j = 3 by omega) with rfl | rfl | rfl | rfl
  · exact key 1 (by omega)
  · exact key 2 (by omega)
  · exact key 4 (by omega)
  · exact key 8 (by omega)
theorem sw27_far (C a b n : Nat) (hC : C / 128 % 32 = 0 ∧ C / 32768 % 32 = 0 ∧ C / 1048576 % 64 = 0 ∧ C / 67108864 % 16 = 0 ∧ C < 2147483648) (ha : a < 32) (hb : b < 32) (hn : n < 64) (hn2 : 31 < n)
    (hM : C % 128 = 27) (hf : C / 4096 % 8 ≠ 0) : wordV (sw C a b n) = (0, 0, 0, 0, 0) := by
  have g0 : get (sw C a b n) 0 7 = 27 := by rw [get_div]; unfold sw; omega
  have g1 : get (sw C a b n) 12 3 = C / 4096 % 8 := by rw [get_div]; unfold sw; omega
  have g2 : get (sw C a b n) 25 7 = C / 33554432 + 1 := by rw [get_div]; unfold sw; omega
  exact word_no (mean27 _ _ _ g0 rfl (by rw [f3, g1]; omega) rfl) (no27 _ _ (by rw [f7, g2]; omega) (by rw [f7, g2]; omega))
end Go.Proofs.YtpbeamnogfjagaaGreatDoor.D
