/-
  The small functions of package alu, and those that it hands on: contracts over the program's translation.
  Conditions: the arguments are numbers of their kinds.
-/
import Derived.Test.YtmabfocpcbaniaaDoorAluV
import Derived.Test.YtmabfocpcbaniaaDoorAluK
namespace Go.Proofs.YtmabfocpcbaniaaDoor
open Go Go.RowKit W M D A
set_option linter.unusedVariables false

theorem sum_c (a b : Int) (ha : B64 a) (hb : B64 b) (w : World) : Calls Tryd.prog 41 #[.int .u64 a, .int .u64 b] w fun e w' => e = .returned (.int .u64 (sumV a b)) ∧ w = w' := by
  unfold B64 at *
  go_enter Tryd.func41, Tryd.ntmps41
  go_wp2_with fail
  go_ret
  exact ⟨ret_int rfl, rfl⟩
theorem dif_c (a b : Int) (ha : B64 a) (hb : B64 b) (w : World) : Calls Tryd.prog 47 #[.int .u64 a, .int .u64 b] w fun e w' => e = .returned (.int .u64 (difV a b)) ∧ w = w' := by
  unfold B64 at *
  go_enter Tryd.func47, Tryd.ntmps47
  go_wp2_with fail
  go_ret
  exact ⟨ret_int rfl, rfl⟩
theorem mul_c (a b : Int) (ha : B64 a) (hb : B64 b) (w : World) : Calls Tryd.prog 52 #[.int .u64 a, .int .u64 b] w fun e w' => e = .returned (.int .u64 (mulV a b)) ∧ w = w' := by
  unfold B64 at *
  go_enter Tryd.func52, Tryd.ntmps52
  go_wp2_with fail
  go_ret
  exact ⟨ret_int rfl, rfl⟩
theorem xor_c (a b : Int) (ha : B64 a) (hb : B64 b) (w : World) : Calls Tryd.prog 42 #[.int .u64 a, .int .u64 b] w fun e w' => e = .returned (.int .u64 (xorV a b)) ∧ w = w' := by
  unfold B64 at *
  go_enter Tryd.func42, Tryd.ntmps42
  go_wp2_with fail
  go_ret
  exact ⟨ret_int rfl, rfl⟩
theorem or_c (a b : Int) (ha : B64 a) (hb : B64 b) (w : World) : Calls Tryd.prog 43 #[.int .u64 a, .int .u64 b] w fun e w' => e = .returned (.int .u64 (orV a b)) ∧ w = w' := by
  unfold B64 at *
  go_enter Tryd.func43, Tryd.ntmps43
  go_wp2_with fail
  go_ret
  exact ⟨ret_int rfl, rfl⟩
theorem and_c (a b : Int) (ha : B64 a) (hb : B64 b) (w : World) : Calls Tryd.prog 44 #[.int .u64 a, .int .u64 b] w fun e w' => e = .returned (.int .u64 (andV a b)) ∧ w = w' := by
  unfold B64 at *
  go_enter Tryd.func44, Tryd.ntmps44
  go_wp2_with fail
  go_ret
  exact ⟨ret_int rfl, rfl⟩
theorem same_c (a b : Int) (ha : B64 a) (hb : B64 b) (w : World) : Calls Tryd.prog 37 #[.int .u64 a, .int .u64 b] w fun e w' => e = .returned (.bool (eqU a b)) ∧ w = w' := by
  unfold B64 at *
  go_enter Tryd.func37, Tryd.ntmps37
  go_wp2_with fail
  go_ret
  exact ⟨rfl, rfl⟩
theorem less_c (a b : Int) (ha : B64 a) (hb : B64 b) (w : World) : Calls Tryd.prog 40 #[.int .u64 a, .int .u64 b] w fun e w' => e = .returned (.bool (ltU a b)) ∧ w = w' := by
  unfold B64 at *
  go_enter Tryd.func40, Tryd.ntmps40
  go_wp2_with fail
  go_ret
  exact ⟨rfl, rfl⟩
theorem lessS_c (a b : Int) (ha : B64 a) (hb : B64 b) (w : World) : Calls Tryd.prog 39 #[.int .u64 a, .int .u64 b] w fun e w' => e = .returned (.bool (ltS a b)) ∧ w = w' := by
  unfold B64 at *
  go_enter Tryd.func39, Tryd.ntmps39
  go_wp2_with fail
  go_ret
  exact ⟨rfl, rfl⟩
theorem low_c (a : Int) (ha : B64 a) (w : World) : Calls Tryd.prog 50 #[.int .u64 a] w fun e w' => e = .returned (.int .u64 (lowV a)) ∧ w = w' := by
  unfold B64 at *
  go_enter Tryd.func50, Tryd.ntmps50
  go_wp2_with fail
  go_ret
  exact ⟨ret_int rfl, rfl⟩
theorem lowS_c (a : Int) (ha : B64 a) (w : World) : Calls Tryd.prog 51 #[.int .u64 a] w fun e w' => e = .returned (.int .u64 (lowS a)) ∧ w = w' := by
  have HA := Lib.hid ha
  unfold B64 at ha
  go_enter Tryd.func51, Tryd.ntmps51
  go_wp2_with fail
  refine (Sext_c a 32 HA.out (by omega) _).mono ?_
  rintro e w' ⟨rfl, rfl⟩
  go_wp2_with fail
  go_ret
  exact ⟨ret_int rfl, rfl⟩
end Go.Proofs.YtmabfocpcbaniaaDoor
