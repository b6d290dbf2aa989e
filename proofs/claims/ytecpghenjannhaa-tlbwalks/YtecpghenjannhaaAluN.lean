/-
  Plain mathematics on: what the statements of layer 7 say of two numbers.
  Conditions: none; nothing here speaks of the program.
-/
import Derived.Test.YtecpghenjannhaaAluV
import Derived.Test.YtecpghenjannhaaWordN
import Derived.Test.YtecpghenjannhaaWordS
import Derived.Test.YtecpghenjannhaaWordG
import Derived.Test.YtecpghenjannhaaWordRW
namespace Go.Proofs.Ytecpghenjannhaa.A
open Go Go.RowKit W D
set_option linter.unusedVariables false

/-! ### Op by op -/
theorem do_22 (a b : Int) : doV 22 a b = sumV a b := rfl
theorem do_23 (a b : Int) : doV 23 a b = flagV ltS a b := rfl
theorem do_24 (a b : Int) : doV 24 a b = flagV ltU a b := rfl
theorem do_25 (a b : Int) : doV 25 a b = xorV a b := rfl
theorem do_26 (a b : Int) : doV 26 a b = orV a b := rfl
theorem do_27 (a b : Int) : doV 27 a b = andV a b := rfl
theorem do_28 (a b : Int) : doV 28 a b = shV 0 a b := rfl
theorem do_29 (a b : Int) : doV 29 a b = shV 1 a b := rfl
theorem do_30 (a b : Int) : doV 30 a b = shV 2 a b := rfl
theorem do_31 (a b : Int) : doV 31 a b = sumV a b := rfl
theorem do_32 (a b : Int) : doV 32 a b = difV a b := rfl
theorem do_33 (a b : Int) : doV 33 a b = shV 0 a b := rfl
theorem do_34 (a b : Int) : doV 34 a b = flagV ltS a b := rfl
theorem do_35 (a b : Int) : doV 35 a b = flagV ltU a b := rfl
theorem do_36 (a b : Int) : doV 36 a b = xorV a b := rfl
theorem do_37 (a b : Int) : doV 37 a b = shV 1 a b := rfl
theorem do_38 (a b : Int) : doV 38 a b = shV 2 a b := rfl
theorem do_39 (a b : Int) : doV 39 a b = orV a b := rfl
theorem do_40 (a b : Int) : doV 40 a b = andV a b := rfl
theorem do_41 (a b : Int) : doV 41 a b = lowerV sumV a b := rfl
theorem do_42 (a b : Int) : doV 42 a b = sh32V lowV 0 a b := rfl
theorem do_43 (a b : Int) : doV 43 a b = sh32V lowV 1 a b := rfl
theorem do_44 (a b : Int) : doV 44 a b = sh32V lowS 2 a b := rfl
theorem do_45 (a b : Int) : doV 45 a b = lowerV sumV a b := rfl
theorem do_46 (a b : Int) : doV 46 a b = lowerV difV a b := rfl
theorem do_47 (a b : Int) : doV 47 a b = sh32V lowV 0 a b := rfl
theorem do_48 (a b : Int) : doV 48 a b = sh32V lowV 1 a b := rfl
theorem do_49 (a b : Int) : doV 49 a b = sh32V lowS 2 a b := rfl
theorem do_50 (a b : Int) : doV 50 a b = mulV a b := rfl
theorem do_51 (a b : Int) : doV 51 a b = hiV true true a b := rfl
theorem do_52 (a b : Int) : doV 52 a b = hiV true false a b := rfl
theorem do_53 (a b : Int) : doV 53 a b = hiV false false a b := rfl
theorem do_54 (a b : Int) : doV 54 a b = byV divV true a b := rfl
theorem do_55 (a b : Int) : doV 55 a b = byV divV false a b := rfl
theorem do_56 (a b : Int) : doV 56 a b = byV remV true a b := rfl
theorem do_57 (a b : Int) : doV 57 a b = byV remV false a b := rfl
theorem do_58 (a b : Int) : doV 58 a b = lowerV mulV a b := rfl
theorem do_59 (a b : Int) : doV 59 a b = byV div32V true a b := rfl
theorem do_60 (a b : Int) : doV 60 a b = byV div32V false a b := rfl
theorem do_61 (a b : Int) : doV 61 a b = byV rem32V true a b := rfl
theorem do_62 (a b : Int) : doV 62 a b = byV rem32V false a b := rfl
theorem do_1 (a b : Int) : doV 1 a b = 0 := rfl
theorem taken_5 (a b : Int) : takenV 5 a b = eqU a b := rfl
theorem taken_6 (a b : Int) : takenV 6 a b = notT eqU a b := rfl
theorem taken_7 (a b : Int) : takenV 7 a b = ltS a b := rfl
theorem taken_8 (a b : Int) : takenV 8 a b = notT ltS a b := rfl
theorem taken_9 (a b : Int) : takenV 9 a b = ltU a b := rfl
theorem taken_10 (a b : Int) : takenV 10 a b = notT ltU a b := rfl

/-! ### Bits -/
theorem low_and (a b : Nat) : (decide ((a &&& b) % 2 = 1)) = (decide (a % 2 = 1) && decide (b % 2 = 1)) := by
  rw [← Nat.testBit_zero, ← Nat.testBit_zero, ← Nat.testBit_zero, Nat.testBit_and]
theorem low_or (a b : Nat) : (decide ((a ||| b) % 2 = 1)) = (decide (a % 2 = 1) || decide (b % 2 = 1)) := by
  rw [← Nat.testBit_zero, ← Nat.testBit_zero, ← Nat.testBit_zero, Nat.testBit_or]
theorem low_and' (a b : Nat) : ((a &&& b) % 2 = 1) ↔ (a % 2 = 1 ∧ b % 2 = 1) := by
  rw [← decide_eq_true_iff (p := (a &&& b) % 2 = 1), low_and, Bool.and_eq_true, decide_eq_true_iff, decide_eq_true_iff]
theorem low_or' (a b : Nat) : ((a ||| b) % 2 = 1) ↔ (a % 2 = 1 ∨ b % 2 = 1) := by
  rw [← decide_eq_true_iff (p := (a ||| b) % 2 = 1), low_or, Bool.or_eq_true, decide_eq_true_iff, decide_eq_true_iff]
theorem nat_and_or (a b : Nat) : (a &&& b) + (a ||| b) = a + b := by
  induction a using Nat.strongRecOn generalizing b with
  | _ a ih =>
    by_cases h : a = 0
    · subst h; simp
    · have e1 := Nat.and_div_two (a := a) (b := b)
      have e2 := Nat.or_div_two (a := a) (b := b)
      have e3 := ih (a / 2) (by omega) (b / 2)
      have m1 := low_and' a b
      have m2 := low_or' a b
      omega
theorem B64.nat {a : Int} (h : B64 a) : ∃ n : Nat, a = n ∧ n < 18446744073709551616 := ⟨a.toNat, by have := h.1; omega, by have := h.2; omega⟩
theorem xorV_nat (x y : Nat) (hx : x < 18446744073709551616) (hy : y < 18446744073709551616) : xorV x y = ((x ^^^ y : Nat) : Int) := by
  unfold xorV; rw [u64_xor _ _ (by omega) (by omega) (by omega) (by omega)]; simp
theorem orV_nat (x y : Nat) (hx : x < 18446744073709551616) (hy : y < 18446744073709551616) : orV x y = ((x ||| y : Nat) : Int) := by
  unfold orV; rw [u64_or _ _ (by omega) (by omega) (by omega) (by omega)]; simp
theorem andV_nat (x y : Nat) (hx : x < 18446744073709551616) (hy : y < 18446744073709551616) : andV x y = ((x &&& y : Nat) : Int) := by
  unfold andV; rw [u64_and _ _ (by omega) (by omega) (by omega) (by omega)]; simp
theorem and_or (a b : Int) (ha : B64 a) (hb : B64 b) : andV a b + orV a b = a + b := by
  obtain ⟨x, rfl, hx⟩ := ha.nat
  obtain ⟨y, rfl, hy⟩ := hb.nat
  rw [andV_nat x y hx hy, orV_nat x y hx hy]
  have := nat_and_or x y
  omega
theorem xor_xor (a b : Int) (ha : B64 a) (hb : B64 b) : xorV (xorV a b) b = a := by
  obtain ⟨x, rfl, hx⟩ := ha.nat
  obtain ⟨y, rfl, hy⟩ := hb.nat
  have h := Nat.xor_lt_two_pow (n := 64) hx hy
  rw [xorV_nat x y hx hy, xorV_nat _ y h hy, Nat.xor_assoc, Nat.xor_self, Nat.xor_zero]
theorem nat_top (x : Nat) (hx : x < 9223372036854775808) : x ^^^ 9223372036854775808 = x + 9223372036854775808 := by
  have h : 2 ^ 63 * 1 + x = 2 ^ 63 * 1 ||| x := Nat.two_pow_add_eq_or_of_lt (i := 63) hx 1
  rw [show 2 ^ 63 * 1 = 9223372036854775808 from rfl] at h
  have e := nat_and_or x 9223372036854775808
  rw [Nat.or_comm] at h
  have z : x &&& 9223372036854775808 = 0 := by omega
  have k : x ^^^ 9223372036854775808 = x ||| 9223372036854775808 := by
    apply Nat.eq_of_testBit_eq
    intro i
    have t := congrArg (fun n => n.testBit i) z
    simp only [Nat.testBit_and, Nat.zero_testBit] at t
    rw [Nat.testBit_xor, Nat.testBit_or]
    cases h1 : x.testBit i <;> cases h2 : (9223372036854775808 : Nat).testBit i <;> simp_all
  omega
theorem xor_top (a : Int) (ha : B64 a) : bits .xor .u64 a 9223372036854775808 = (a + 9223372036854775808) % 18446744073709551616 := by
  obtain ⟨x, rfl, hx⟩ := ha.nat
  have h := xorV_nat x 9223372036854775808 hx (by omega)
  unfold xorV at h
  rw [show ((9223372036854775808 : Nat) : Int) = 9223372036854775808 from rfl] at h
  rw [h]
  by_cases c : x < 9223372036854775808
  · rw [nat_top x c]; omega
  · obtain ⟨r, rfl⟩ : ∃ r, x = r + 9223372036854775808 := ⟨x - 9223372036854775808, by omega⟩
    rw [← nat_top r (by omega), Nat.xor_assoc, Nat.xor_self, Nat.xor_zero, nat_top r (by omega)]
    omega
theorem less_turned (a b : Int) (ha : B64 a) (hb : B64 b) : ltU (bits .xor .u64 a 9223372036854775808) (bits .xor .u64 b 9223372036854775808) = ltS a b := by
  rw [xor_top a ha, xor_top b hb]
  unfold ltU ltS B64 at *
  rw [w64_def, w64_def]
  exact decide_eq_decide.2 (by omega)

/-! ### Halves -/
def half14 : List Int := [41, 42, 43, 44, 45, 46, 47, 48, 49, 58, 59, 60, 61, 62]
def Sm (y : Int) : Prop := ∃ z, -2147483648 ≤ z ∧ z ≤ 2147483647 ∧ y = IntKind.u64.wrap z
theorem sm_low (x : Int) : Sm (lowS x) := ⟨wrap32 x, by have := w32_bd x; omega, by have := w32_bd x; omega, by unfold lowS; rw [sextV_32]⟩
theorem sm_div (a b : Int) (s : Bool) : Sm (div32V a b s) := by
  unfold div32V
  split
  · unfold quoS32
    split
    · exact ⟨-1, by omega, by omega, rfl⟩
    · exact ⟨_, (w32_bd _).1, (w32_bd _).2, rfl⟩
  · exact sm_low _
theorem tmod_in (x y : Int) (hx : -2147483648 ≤ x ∧ x ≤ 2147483647) (hy : -2147483648 ≤ y ∧ y ≤ 2147483647) (h : y ≠ 0) : -2147483648 ≤ x.tmod y ∧ x.tmod y ≤ 2147483647 := by
  have h2 : (x.tmod y).natAbs < y.natAbs := by rw [Int.natAbs_tmod]; exact Nat.mod_lt _ (by omega)
  omega
theorem sm_rem (a b : Int) (s : Bool) : Sm (rem32V a b s) := by
  unfold rem32V
  split
  · unfold remS
    split
    · exact ⟨_, (w32_bd _).1, (w32_bd _).2, rfl⟩
    · rename_i h
      have := tmod_in (wrap32 a) (wrap32 b) (w32_bd _) (w32_bd _) h
      exact ⟨_, this.1, this.2, rfl⟩
  · exact sm_low _
theorem half_sm (o : Int) (ho : o ∈ half14) (a b : Int) : Sm (doV o a b) := by
  simp only [half14, List.mem_cons, List.not_mem_nil, or_false] at ho
  rcases ho with rfl | rfl | rfl | rfl | rfl | rfl | rfl | rfl | rfl | rfl | rfl | rfl | rfl | rfl
  · rw [do_41]; exact sm_low _
  · rw [do_42]; exact sm_low _
  · rw [do_43]; exact sm_low _
  · rw [do_44]; exact sm_low _
  · rw [do_45]; exact sm_low _
  · rw [do_46]; exact sm_low _
  · rw [do_47]; exact sm_low _
  · rw [do_48]; exact sm_low _
  · rw [do_49]; exact sm_low _
  · rw [do_58]; exact sm_low _
  · rw [do_59]; exact sm_div a b true
  · rw [do_60]; exact sm_div a b false
  · rw [do_61]; exact sm_rem a b true
  · rw [do_62]; exact sm_rem a b false
theorem low_cong (x y : Int) (h : x % 4294967296 = y % 4294967296) : lowS x = lowS y := sextV_cong x y h
theorem half_cong (o : Int) (ho : o ∈ half14) (a b c d : Int) (h1 : c % 4294967296 = a % 4294967296) (h2 : d % 4294967296 = b % 4294967296) : doV o c d = doV o a b := by
  have hs : ∀ k, sh32V lowV k c d = sh32V lowV k a b := fun k => by
    unfold sh32V lowV; rw [h1, show d % 32 = b % 32 by omega]
  have ht : sh32V lowS 2 c d = sh32V lowS 2 a b := by
    unfold sh32V; rw [low_cong c a h1, show d % 32 = b % 32 by omega]
  have hp : lowerV sumV c d = lowerV sumV a b := low_cong _ _ (by unfold sumV; rw [u64_eq, u64_eq]; omega)
  have hm : lowerV difV c d = lowerV difV a b := low_cong _ _ (by unfold difV; rw [u64_eq, u64_eq]; omega)
  have hx : lowerV mulV c d = lowerV mulV a b := low_cong _ _ (by
    unfold mulV; rw [u64_mod32, u64_mod32, ← d_mul, ← d_mul', h1, h2, d_mul', d_mul])
  simp only [half14, List.mem_cons, List.not_mem_nil, or_false] at ho
  rcases ho with rfl | rfl | rfl | rfl | rfl | rfl | rfl | rfl | rfl | rfl | rfl | rfl | rfl | rfl
  · rw [do_41, do_41]; exact hp
  · rw [do_42, do_42]; exact hs 0
  · rw [do_43, do_43]; exact hs 1
  · rw [do_44, do_44]; exact ht
  · rw [do_45, do_45]; exact hp
  · rw [do_46, do_46]; exact hm
  · rw [do_47, do_47]; exact hs 0
  · rw [do_48, do_48]; exact hs 1
  · rw [do_49, do_49]; exact ht
  · rw [do_58, do_58]; exact hx
  · rw [do_59, do_59]; exact div32V_cong a b c d true h1 h2
  · rw [do_60, do_60]; exact div32V_cong a b c d false h1 h2
  · rw [do_61, do_61]; exact rem32V_cong a b c d true h1 h2
  · rw [do_62, do_62]; exact rem32V_cong a b c d false h1 h2
theorem sm_cases {y : Int} (h : Sm y) : (B64 y ∧ y / 4294967296 = 0 ∧ bits .and .u64 (y / 2147483648) 1 = 0) ∨ (B64 y ∧ y / 4294967296 = 4294967295 ∧ bits .and .u64 (y / 2147483648) 1 = 1) := by
  obtain ⟨z, h1, h2, rfl⟩ := h
  rw [u64_eq]
  have hb : 0 ≤ z % 18446744073709551616 / 2147483648 ∧ z % 18446744073709551616 / 2147483648 ≤ 18446744073709551615 := by omega
  rw [and_one _ hb]
  unfold B64
  omega

/-! ### What is multiplied and divided -/
theorem back32 (a b : Int) (ha : B64 a) (hb : B64 b) : doV 45 (doV 58 (doV 59 a b) b) (doV 61 a b) = doV 41 a 0 := by
  show lowS (sumV (lowS (mulV (div32V a b true) b)) (rem32V a b true)) = lowS (sumV a 0)
  have e := div32S_back a b
  rw [show lowS (sumV a 0) = sextV a 32 from sextV_cong _ _ (by unfold sumV; rw [u64_eq]; omega), ← e]
  apply sextV_cong
  unfold sumV mulV lowS
  have f := sextV_mod (IntKind.u64.wrap (div32V a b true * b))
  generalize sextV (IntKind.u64.wrap (div32V a b true * b)) 32 = p at *
  generalize IntKind.u64.wrap (div32V a b true * b) = q at *
  rw [u64_eq, u64_eq]
  omega
theorem high_half (a b : Int) (ha : B64 a) (hb : B64 b) : (a / 9223372036854775808 = 1 → IntKind.u64.wrap (doV 52 a b + b) = doV 53 a b) ∧ (a / 9223372036854775808 ≠ 1 → doV 52 a b = doV 53 a b) := by
  show (a / 9223372036854775808 = 1 → IntKind.u64.wrap (highV a b true false + b) = highV a b false false) ∧ (a / 9223372036854775808 ≠ 1 → highV a b true false = highV a b false false)
  have h := hi_bd a b ha hb
  unfold highV B64 at *
  generalize a * b / 18446744073709551616 = p at *
  simp only [u64_eq, Bool.false_eq_true, false_and, true_and, if_false]
  by_cases c : 9223372036854775808 ≤ a
  · rw [if_pos c]; omega
  · rw [if_neg c]; omega
theorem high_signed (a b : Int) (ha : B64 a) (hb : B64 b) : (b / 9223372036854775808 = 1 → IntKind.u64.wrap (doV 51 a b + a) = doV 52 a b) ∧ (b / 9223372036854775808 ≠ 1 → doV 51 a b = doV 52 a b) := by
  show (b / 9223372036854775808 = 1 → IntKind.u64.wrap (highV a b true true + a) = highV a b true false) ∧ (b / 9223372036854775808 ≠ 1 → highV a b true true = highV a b true false)
  have h := hi_bd a b ha hb
  unfold highV B64 at *
  generalize a * b / 18446744073709551616 = p at *
  simp only [u64_eq, Bool.false_eq_true, false_and, true_and, if_false]
  by_cases d : 9223372036854775808 ≤ b
  · rw [if_pos d]; split <;> omega
  · rw [if_neg d]; split <;> omega

/-! ### Shifts -/
theorem sh_arith (a b : Int) (ha : B64 a) : shV 2 a b / 9223372036854775808 = a / 9223372036854775808 := by
  unfold shV shiftV
  rw [if_neg (by omega), if_neg (by omega), if_pos rfl, u64_eq]
  have h := wdiv_bd a (b % 64 % 64).toNat
  have hp := pow_pos' (b % 64 % 64).toNat
  have e : wrap64 a / 2 ^ (b % 64 % 64).toNat < 0 ↔ wrap64 a < 0 := by
    constructor
    · intro h0
      by_cases c : 0 ≤ wrap64 a
      · have := Int.ediv_nonneg c (Int.le_of_lt hp); omega
      · omega
    · intro h0
      exact Int.ediv_neg_of_neg_of_pos h0 hp
  have w := w64_def a
  generalize wrap64 a / 2 ^ (b % 64 % 64).toNat = q at *
  unfold B64 at ha
  omega
theorem sh_right (a b : Int) : shV 1 a b = a / 2 ^ (b % 64).toNat := by
  unfold shV shiftV
  rw [if_neg (by omega), if_pos rfl, show b % 64 % 64 = b % 64 by omega]
theorem sh_round (a b k : Int) : shV k a (b % 64) = shV k a b := by
  unfold shV; rw [show b % 64 % 64 = b % 64 by omega]
end Go.Proofs.Ytecpghenjannhaa.A
