/-
  What each function of package word answers, for all numbers: contracts over the program's translation.
  Conditions: the arguments are numbers of their kinds.
-/
import Derived.Test.YtmabfocpcbaniaaDoorProg
import Derived.Test.YtmabfocpcbaniaaDoorWordV
import Derived.Lib.Hide
namespace Go.Proofs.YtmabfocpcbaniaaDoor
open Go Go.RowKit W
set_option linter.unusedVariables false

theorem ret_int {k : IntKind} {a b : Int} (h : a = b) : Ending.returned (.int k a) = .returned (.int k b) := by rw [h]

set_option maxHeartbeats 400000 in
theorem quotient_i64_c (a b : Int) (ha : -9223372036854775808 ≤ a ∧ a ≤ 9223372036854775807) (hb : -9223372036854775808 ≤ b ∧ b ≤ 9223372036854775807) (w : World) :
    Calls Tryd.prog 73 #[.int .i64 a, .int .i64 b] w fun e w' => e = .returned (.int .i64 (quoS a b)) ∧ w = w' := by
  by_cases h : b = 0
  · subst h
    go_enter Tryd.func73, Tryd.ntmps73
    go_wp2
    go_ret
    exact ⟨ret_int (by simp only [quoS, if_pos]; decide), rfl⟩
  · have hz : (b == 0) = false := by simpa using h
    go_enter Tryd.func73, Tryd.ntmps73
    go_wp2
    go_ret
    exact ⟨ret_int (by simp only [quoS]; rw [if_neg (by assumption)]), rfl⟩

set_option maxHeartbeats 400000 in
theorem rest_i64_c (a b : Int) (ha : -9223372036854775808 ≤ a ∧ a ≤ 9223372036854775807) (hb : -9223372036854775808 ≤ b ∧ b ≤ 9223372036854775807) (w : World) :
    Calls Tryd.prog 75 #[.int .i64 a, .int .i64 b] w fun e w' => e = .returned (.int .i64 (remS a b)) ∧ w = w' := by
  by_cases h : b = 0
  · subst h
    go_enter Tryd.func75, Tryd.ntmps75
    go_wp2
    go_ret
    exact ⟨ret_int (by simp only [remS, if_pos]), rfl⟩
  · have hz : (b == 0) = false := by simpa using h
    go_enter Tryd.func75, Tryd.ntmps75
    go_wp2
    go_ret
    exact ⟨ret_int (by simp only [remS]; rw [if_neg (by assumption)]), rfl⟩

set_option maxHeartbeats 400000 in
theorem quotient_u64_c (a b : Int) (ha : 0 ≤ a ∧ a ≤ 18446744073709551615) (hb : 0 ≤ b ∧ b ≤ 18446744073709551615) (w : World) :
    Calls Tryd.prog 74 #[.int .u64 a, .int .u64 b] w fun e w' => e = .returned (.int .u64 (quoU a b)) ∧ w = w' := by
  by_cases h : b = 0
  · subst h
    go_enter Tryd.func74, Tryd.ntmps74
    go_wp2
    go_ret
    exact ⟨ret_int (by simp only [quoU, if_pos]; decide), rfl⟩
  · have hz : (b == 0) = false := by simpa using h
    go_enter Tryd.func74, Tryd.ntmps74
    go_wp2
    go_ret
    exact ⟨ret_int (by simp only [quoU]; rw [if_neg (by assumption)]), rfl⟩

set_option maxHeartbeats 400000 in
theorem rest_u64_c (a b : Int) (ha : 0 ≤ a ∧ a ≤ 18446744073709551615) (hb : 0 ≤ b ∧ b ≤ 18446744073709551615) (w : World) :
    Calls Tryd.prog 76 #[.int .u64 a, .int .u64 b] w fun e w' => e = .returned (.int .u64 (remU a b)) ∧ w = w' := by
  by_cases h : b = 0
  · subst h
    go_enter Tryd.func76, Tryd.ntmps76
    go_wp2
    go_ret
    exact ⟨ret_int (by simp only [remU, if_pos]), rfl⟩
  · have hz : (b == 0) = false := by simpa using h
    go_enter Tryd.func76, Tryd.ntmps76
    go_wp2
    go_ret
    exact ⟨ret_int (by simp only [remU]; rw [if_neg (by assumption)]), rfl⟩

set_option maxHeartbeats 400000 in
theorem quotient_i32_c (a b : Int) (ha : -2147483648 ≤ a ∧ a ≤ 2147483647) (hb : -2147483648 ≤ b ∧ b ≤ 2147483647) (w : World) :
    Calls Tryd.prog 77 #[.int .i32 a, .int .i32 b] w fun e w' => e = .returned (.int .i32 (quoS32 a b)) ∧ w = w' := by
  by_cases h : b = 0
  · subst h
    go_enter Tryd.func77, Tryd.ntmps77
    go_wp2
    go_ret
    exact ⟨ret_int (by simp only [quoS32, if_pos]; decide), rfl⟩
  · have hz : (b == 0) = false := by simpa using h
    go_enter Tryd.func77, Tryd.ntmps77
    go_wp2
    go_ret
    exact ⟨ret_int (by simp only [quoS32]; rw [if_neg (by assumption)]), rfl⟩

set_option maxHeartbeats 400000 in
theorem rest_i32_c (a b : Int) (ha : -2147483648 ≤ a ∧ a ≤ 2147483647) (hb : -2147483648 ≤ b ∧ b ≤ 2147483647) (w : World) :
    Calls Tryd.prog 79 #[.int .i32 a, .int .i32 b] w fun e w' => e = .returned (.int .i32 (remS a b)) ∧ w = w' := by
  by_cases h : b = 0
  · subst h
    go_enter Tryd.func79, Tryd.ntmps79
    go_wp2
    go_ret
    exact ⟨ret_int (by simp only [remS, if_pos]), rfl⟩
  · have hz : (b == 0) = false := by simpa using h
    go_enter Tryd.func79, Tryd.ntmps79
    go_wp2
    go_ret
    exact ⟨ret_int (by simp only [remS]; rw [if_neg (by assumption)]), rfl⟩

set_option maxHeartbeats 400000 in
theorem quotient_u32_c (a b : Int) (ha : 0 ≤ a ∧ a ≤ 4294967295) (hb : 0 ≤ b ∧ b ≤ 4294967295) (w : World) :
    Calls Tryd.prog 78 #[.int .u32 a, .int .u32 b] w fun e w' => e = .returned (.int .u32 (quoU32 a b)) ∧ w = w' := by
  by_cases h : b = 0
  · subst h
    go_enter Tryd.func78, Tryd.ntmps78
    go_wp2
    go_ret
    exact ⟨ret_int (by simp only [quoU32, if_pos]; decide), rfl⟩
  · have hz : (b == 0) = false := by simpa using h
    go_enter Tryd.func78, Tryd.ntmps78
    go_wp2
    go_ret
    exact ⟨ret_int (by simp only [quoU32]; rw [if_neg (by assumption)]), rfl⟩

set_option maxHeartbeats 400000 in
theorem rest_u32_c (a b : Int) (ha : 0 ≤ a ∧ a ≤ 4294967295) (hb : 0 ≤ b ∧ b ≤ 4294967295) (w : World) :
    Calls Tryd.prog 80 #[.int .u32 a, .int .u32 b] w fun e w' => e = .returned (.int .u32 (remU a b)) ∧ w = w' := by
  by_cases h : b = 0
  · subst h
    go_enter Tryd.func80, Tryd.ntmps80
    go_wp2
    go_ret
    exact ⟨ret_int (by simp only [remU, if_pos]), rfl⟩
  · have hz : (b == 0) = false := by simpa using h
    go_enter Tryd.func80, Tryd.ntmps80
    go_wp2
    go_ret
    exact ⟨ret_int (by simp only [remU]; rw [if_neg (by assumption)]), rfl⟩

set_option maxHeartbeats 400000 in
theorem Sext_c (x n : Int) (hx : 0 ≤ x ∧ x ≤ 18446744073709551615) (hn : -9223372036854775808 ≤ n ∧ n ≤ 9223372036854775807) (w : World) :
    Calls Tryd.prog 69 #[.int .u64 x, .int .i64 n] w fun e w' => e = .returned (.int .u64 (sextV x n)) ∧ w = w' := by
  by_cases h : n < 1 ∨ 63 < n
  · by_cases h1 : n < 1
    all_goals
      go_enter Tryd.func69, Tryd.ntmps69
      go_wp2
      go_ret
      exact ⟨ret_int (by simp only [sextV]; rw [if_pos (by omega)]), rfl⟩
  · have h1 : 1 ≤ n := by omega
    have h2 : n ≤ 63 := by omega
    have H := Lib.hid h; clear h
    go_enter Tryd.func69, Tryd.ntmps69
    go_wp2
    go_ret
    exact ⟨ret_int (by simp only [sextV]; rw [if_neg H.out]), rfl⟩

theorem and63 (b : Int) : bits .and .u64 (IntKind.u64.wrap b) 63 = b % 64 := by
  have h := u64_bd b
  rw [u64_and _ _ h.1 (by omega) (by omega) (by omega)]
  rw [show (63 : Int).toNat = 63 from rfl, nat_mask6]
  rw [u64_eq] at *
  omega

set_option maxHeartbeats 400000 in
theorem Shift_c (x b k : Int) (hx : 0 ≤ x ∧ x ≤ 18446744073709551615) (hb : -9223372036854775808 ≤ b ∧ b ≤ 9223372036854775807) (hk : -9223372036854775808 ≤ k ∧ k ≤ 9223372036854775807) (w : World) :
    Calls Tryd.prog 66 #[.int .u64 x, .int .i64 b, .int .i64 k] w fun e w' => e = .returned (.int .u64 (shiftV x b k)) ∧ w = w' := by
  have ha := and63 b
  have h0 : 0 ≤ b % 64 := by omega
  have h1 : b % 64 ≤ 63 := by omega
  by_cases k0 : k = 0
  · subst k0
    go_enter Tryd.func66, Tryd.ntmps66
    go_wp2
    go_ret
    exact ⟨ret_int (by unfold shiftV; rw [if_pos rfl]), rfl⟩
  · by_cases k1 : k = 1
    · subst k1
      go_enter Tryd.func66, Tryd.ntmps66
      go_wp2
      go_ret
      exact ⟨ret_int (by unfold shiftV; rw [if_neg (by decide), if_pos rfl]), rfl⟩
    · by_cases k2 : k = 2
      · subst k2
        go_enter Tryd.func66, Tryd.ntmps66
        go_wp2
        go_ret
        exact ⟨ret_int (by unfold shiftV; rw [if_neg (by decide), if_neg (by decide), if_pos rfl]), rfl⟩
      · have e0 : (k == 0) = false := by simpa using k0
        have e1 : (k == 1) = false := by simpa using k1
        have e2 : (k == 2) = false := by simpa using k2
        go_enter Tryd.func66, Tryd.ntmps66
        go_wp2
        go_ret
        exact ⟨ret_int (by unfold shiftV; rw [if_neg k0, if_neg k1, if_neg k2]), rfl⟩

set_option maxHeartbeats 400000 in
theorem Div_c (a b : Int) (s : Bool) (ha : 0 ≤ a ∧ a ≤ 18446744073709551615) (hb : 0 ≤ b ∧ b ≤ 18446744073709551615) (w : World) :
    Calls Tryd.prog 55 #[.int .u64 a, .int .u64 b, .bool s] w fun e w' => e = .returned (.int .u64 (divV a b s)) ∧ w = w' := by
  have a64 := w64_bd a
  have b64 := w64_bd b
  have a32 := w32_bd a
  have b32 := w32_bd b
  have au : 0 ≤ a % 4294967296 ∧ a % 4294967296 ≤ 4294967295 := by omega
  have bu : 0 ≤ b % 4294967296 ∧ b % 4294967296 ≤ 4294967295 := by omega
  cases s
  · go_enter Tryd.func55, Tryd.ntmps55
    go_wp2_with fail
    refine (quotient_u64_c _ _ (by first | assumption | omega) (by first | assumption | omega) _).mono ?_
    rintro e w' ⟨rfl, rfl⟩
    
    go_wp2_with fail
    go_ret
    exact ⟨ret_int (by simp only [divV]; rfl), rfl⟩
  · go_enter Tryd.func55, Tryd.ntmps55
    go_wp2_with fail
    refine (quotient_i64_c _ _ (by first | assumption | omega) (by first | assumption | omega) _).mono ?_
    rintro e w' ⟨rfl, rfl⟩
    go_wp2_with fail
    go_ret
    exact ⟨ret_int (by simp only [divV]; rfl), rfl⟩

set_option maxHeartbeats 400000 in
theorem Rem_c (a b : Int) (s : Bool) (ha : 0 ≤ a ∧ a ≤ 18446744073709551615) (hb : 0 ≤ b ∧ b ≤ 18446744073709551615) (w : World) :
    Calls Tryd.prog 56 #[.int .u64 a, .int .u64 b, .bool s] w fun e w' => e = .returned (.int .u64 (remV a b s)) ∧ w = w' := by
  have a64 := w64_bd a
  have b64 := w64_bd b
  have a32 := w32_bd a
  have b32 := w32_bd b
  have au : 0 ≤ a % 4294967296 ∧ a % 4294967296 ≤ 4294967295 := by omega
  have bu : 0 ≤ b % 4294967296 ∧ b % 4294967296 ≤ 4294967295 := by omega
  cases s
  · go_enter Tryd.func56, Tryd.ntmps56
    go_wp2_with fail
    refine (rest_u64_c _ _ (by first | assumption | omega) (by first | assumption | omega) _).mono ?_
    rintro e w' ⟨rfl, rfl⟩
    
    go_wp2_with fail
    go_ret
    exact ⟨ret_int (by simp only [remV]; rfl), rfl⟩
  · go_enter Tryd.func56, Tryd.ntmps56
    go_wp2_with fail
    refine (rest_i64_c _ _ (by first | assumption | omega) (by first | assumption | omega) _).mono ?_
    rintro e w' ⟨rfl, rfl⟩
    go_wp2_with fail
    go_ret
    exact ⟨ret_int (by simp only [remV]; rfl), rfl⟩

set_option maxHeartbeats 400000 in
theorem Div32_c (a b : Int) (s : Bool) (ha : 0 ≤ a ∧ a ≤ 18446744073709551615) (hb : 0 ≤ b ∧ b ≤ 18446744073709551615) (w : World) :
    Calls Tryd.prog 57 #[.int .u64 a, .int .u64 b, .bool s] w fun e w' => e = .returned (.int .u64 (div32V a b s)) ∧ w = w' := by
  have a64 := w64_bd a
  have b64 := w64_bd b
  have a32 := w32_bd a
  have b32 := w32_bd b
  have au : 0 ≤ a % 4294967296 ∧ a % 4294967296 ≤ 4294967295 := by omega
  have bu : 0 ≤ b % 4294967296 ∧ b % 4294967296 ≤ 4294967295 := by omega
  cases s
  · go_enter Tryd.func57, Tryd.ntmps57
    go_wp2_with fail
    refine (quotient_u32_c _ _ (by first | assumption | omega) (by first | assumption | omega) _).mono ?_
    rintro e w' ⟨rfl, rfl⟩
    have hq := quoU32_bd (a % 4294967296) (b % 4294967296) au bu.1
    go_wp2_with fail
    refine (Sext_c _ _ (by omega) (by omega) _).mono ?_
    rintro e w' ⟨rfl, rfl⟩
    go_wp2_with fail
    go_ret
    exact ⟨ret_int (by simp only [div32V]; rfl), rfl⟩
  · go_enter Tryd.func57, Tryd.ntmps57
    go_wp2_with fail
    refine (quotient_i32_c _ _ (by first | assumption | omega) (by first | assumption | omega) _).mono ?_
    rintro e w' ⟨rfl, rfl⟩
    go_wp2_with fail
    go_ret
    exact ⟨ret_int (by simp only [div32V]; rfl), rfl⟩

set_option maxHeartbeats 400000 in
theorem Rem32_c (a b : Int) (s : Bool) (ha : 0 ≤ a ∧ a ≤ 18446744073709551615) (hb : 0 ≤ b ∧ b ≤ 18446744073709551615) (w : World) :
    Calls Tryd.prog 58 #[.int .u64 a, .int .u64 b, .bool s] w fun e w' => e = .returned (.int .u64 (rem32V a b s)) ∧ w = w' := by
  have a64 := w64_bd a
  have b64 := w64_bd b
  have a32 := w32_bd a
  have b32 := w32_bd b
  have au : 0 ≤ a % 4294967296 ∧ a % 4294967296 ≤ 4294967295 := by omega
  have bu : 0 ≤ b % 4294967296 ∧ b % 4294967296 ≤ 4294967295 := by omega
  cases s
  · go_enter Tryd.func58, Tryd.ntmps58
    go_wp2_with fail
    refine (rest_u32_c _ _ (by first | assumption | omega) (by first | assumption | omega) _).mono ?_
    rintro e w' ⟨rfl, rfl⟩
    have hq := remU32_bd (a % 4294967296) (b % 4294967296) au bu.1
    go_wp2_with fail
    refine (Sext_c _ _ (by omega) (by omega) _).mono ?_
    rintro e w' ⟨rfl, rfl⟩
    go_wp2_with fail
    go_ret
    exact ⟨ret_int (by simp only [rem32V]; rfl), rfl⟩
  · go_enter Tryd.func58, Tryd.ntmps58
    go_wp2_with fail
    refine (rest_i32_c _ _ (by first | assumption | omega) (by first | assumption | omega) _).mono ?_
    rintro e w' ⟨rfl, rfl⟩
    go_wp2_with fail
    go_ret
    exact ⟨ret_int (by simp only [rem32V]; rfl), rfl⟩

set_option maxHeartbeats 400000 in
theorem Mul64_c (a b : Int) (ha : 0 ≤ a ∧ a ≤ 18446744073709551615) (hb : 0 ≤ b ∧ b ≤ 18446744073709551615) (w : World) :
    Calls Tryd.prog 81 #[.int .u64 a, .int .u64 b] w fun e w' => e = .returned (.tuple #[.int .u64 (a * b / 18446744073709551616), .int .u64 (IntKind.u64.wrap (a * b))]) ∧ w = w' := by
  have hh := Lib.hid (mul_hi a b ha hb)
  go_enter Tryd.func81, Tryd.ntmps81
  go_wp2_with fail
  go_ret2
  rw [hh.out]
  exact ⟨rfl, rfl⟩
set_option maxHeartbeats 400000 in
theorem High_c (a b : Int) (sa sb : Bool) (ha : 0 ≤ a ∧ a ≤ 18446744073709551615) (hb : 0 ≤ b ∧ b ≤ 18446744073709551615) (w : World) :
    Calls Tryd.prog 71 #[.int .u64 a, .int .u64 b, .bool sa, .bool sb] w fun e w' => e = .returned (.int .u64 (highV a b sa sb)) ∧ w = w' := by
  have WA := Lib.hid (w64_def a)
  have WB := Lib.hid (w64_def b)
  have hh := hi_bd a b ha hb
  cases sa <;> cases sb
  all_goals
    go_enter Tryd.func71, Tryd.ntmps71
    go_wp2_with fail
    refine (Mul64_c _ _ ha hb _).mono ?_
    rintro e w' ⟨rfl, rfl⟩
    go_wp2_with fail
  all_goals
    have wa := WA.out
    have wb := WB.out
    go_ret
    refine ⟨ret_int ?_, rfl⟩
    simp only [highV, true_and, false_and, Bool.false_eq_true, if_false, u64_eq]
    clear WA WB
    generalize a * b / 18446744073709551616 = h at *
    (repeat' split) <;> omega
end Go.Proofs.YtmabfocpcbaniaaDoor
