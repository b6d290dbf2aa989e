/-
  What the functions of package trap answer: contracts over the program's translation.
  Conditions: the arguments are numbers of their kinds; 'first' and what calls it want the table of interrupts as the program's text lays it.
-/
import Derived.Test.YtkfmcbhoendocaaCsrE
import Derived.Test.YtkfmcbhoendocaaTrV
import Derived.Deep.Cut
namespace Go.Proofs.Ytkfmcbhoendocaa
open Go Go.RowKit Go.Maps W M D A C J
set_option linter.unusedVariables false
set_option linter.unusedSimpArgs false

theorem with_c (x b : Int) (hx : B64 x) (hb : B64 b) (s : Bool) (w : World) :
    Calls Try.prog 88 #[.int .u64 x, .int .u64 b, .bool s] w fun e w' => e = .returned (.int .u64 (withV x b s)) ∧ w = w' := by
  unfold withV notV orV
  go_enter Try.func88, Try.ntmps88
  cases s
  · go_wp2_with fail
    go_ret
    exact ⟨rfl, rfl⟩
  · go_wp2_with fail
    go_ret
    exact ⟨rfl, rfl⟩
theorem causeOf_c (i : Bool) (k : Int) (hk : -9223372036854775808 ≤ k ∧ k ≤ 9223372036854775807) (w : World) :
    Calls Try.prog 46 #[.bool i, .int .i64 k] w fun e w' => e = .returned (.int .u64 (causeV i k)) ∧ w = w' := by
  unfold causeV
  go_enter Try.func46, Try.ntmps46
  cases i
  · go_wp2_with fail
    go_ret
    exact ⟨rfl, rfl⟩
  · go_wp2_with fail
    go_ret
    exact ⟨rfl, rfl⟩
theorem handler_c (t : Int) (ht : B64 t) (i : Bool) (k : Int) (hk : -9223372036854775808 ≤ k ∧ k ≤ 9223372036854775807) (w : World) :
    Calls Try.prog 49 #[.int .u64 t, .bool i, .int .i64 k] w fun e w' => e = .returned (.int .u64 (handV t i k)) ∧ w = w' := by
  unfold handV onV notV andV
  go_enter Try.func49, Try.ntmps49
  cases i
  · go_wp2_with fail
    go_ret
    exact ⟨rfl, rfl⟩
  · by_cases h : bits .and .u64 t 1 = 0
    · rw [h]
      go_wp2_with fail
      go_ret
      exact ⟨rfl, rfl⟩
    · have d : (bits .and .u64 t 1 == 0) = false := beq_false_of_ne h
      rw [d]
      go_wp2_with fail
      go_ret
      exact ⟨rfl, rfl⟩
theorem left_c (s : Int) (hs : B64 s) (w : World) :
    Calls Try.prog 50 #[.int .u64 s] w fun e w' => e = .returned (.int .u64 (leftV s)) ∧ w = w' := by
  have W1 := Lib.hid (fun W => with_c s 2 hs (by decide) (onV s 32) W)
  have W2 := Lib.hid (fun W => with_c (withV s 2 (onV s 32)) 32 (with_bd hs (by decide) _) (by decide) true W)
  have W3 := Lib.hid (fun W => with_c (withV (withV s 2 (onV s 32)) 32 true) 256 (with_bd (with_bd hs (by decide) _) (by decide) _) (by decide) false W)
  unfold leftV
  go_enter Try.func50, Try.ntmps50
  go_wp2_with fail
  refine (W1.out _).mono ?_
  rintro e w' ⟨rfl, rfl⟩
  go_wp2_with fail
  refine (W2.out _).mono ?_
  rintro e w' ⟨rfl, rfl⟩
  go_wp2_with fail
  refine (W3.out _).mono ?_
  rintro e w' ⟨rfl, rfl⟩
  go_wp2_with fail
  go_ret
  exact ⟨rfl, rfl⟩
theorem entered_c (s p : Int) (hs : B64 s) (hp : -9223372036854775808 ≤ p ∧ p ≤ 9223372036854775807) (w : World) :
    Calls Try.prog 48 #[.int .u64 s, .int .i64 p] w fun e w' => e = .returned (.int .u64 (entV s p)) ∧ w = w' := by
  have W1 := Lib.hid (fun W => with_c s 32 hs (by decide) (onV s 2) W)
  have W2 := Lib.hid (fun W => with_c (withV s 32 (onV s 2)) 2 (with_bd hs (by decide) _) (by decide) false W)
  have W3 := Lib.hid (fun W => with_c (withV (withV s 32 (onV s 2)) 2 false) 256 (with_bd (with_bd hs (by decide) _) (by decide) _) (by decide) (p == 1) W)
  unfold entV
  go_enter Try.func48, Try.ntmps48
  go_wp2_with fail
  refine (W1.out _).mono ?_
  rintro e w' ⟨rfl, rfl⟩
  go_wp2_with fail
  refine (W2.out _).mono ?_
  rintro e w' ⟨rfl, rfl⟩
  go_wp2_with fail
  refine (W3.out _).mono ?_
  rintro e w' ⟨rfl, rfl⟩
  go_wp2_with fail
  go_ret
  exact ⟨rfl, rfl⟩
end Go.Proofs.Ytkfmcbhoendocaa
