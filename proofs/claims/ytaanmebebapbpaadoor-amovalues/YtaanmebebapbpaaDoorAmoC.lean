/-
  What Sext of package word answers: a contract over the program's translation.
  Conditions: the arguments are numbers of their kinds.
-/
import Derived.Test.YtaanmebebapbpaaDoorProg
import Derived.Test.YtaanmebebapbpaaDoorWordV
import Derived.Lib.Hide
namespace Go.Proofs.YtaanmebebapbpaaDoor
open Go Go.RowKit W
set_option linter.unusedVariables false

theorem ret_int {k : IntKind} {a b : Int} (h : a = b) : Ending.returned (.int k a) = .returned (.int k b) := by rw [h]
theorem ret_boo {a b : Bool} (h : a = b) : Ending.returned (.bool a) = .returned (.bool b) := by rw [h]

set_option maxHeartbeats 400000 in
theorem Sext_c (x n : Int) (hx : 0 ≤ x ∧ x ≤ 18446744073709551615) (hn : -9223372036854775808 ≤ n ∧ n ≤ 9223372036854775807) (w : World) :
    Calls Tryd.prog 29 #[.int .u64 x, .int .i64 n] w fun e w' => e = .returned (.int .u64 (sextV x n)) ∧ w = w' := by
  by_cases h : n < 1 ∨ 63 < n
  · by_cases h1 : n < 1
    all_goals
      go_enter Tryd.func29, Tryd.ntmps29
      go_wp2
      go_ret
      exact ⟨ret_int (by simp only [sextV]; rw [if_pos (by omega)]), rfl⟩
  · have h1 : 1 ≤ n := by omega
    have h2 : n ≤ 63 := by omega
    have H := Lib.hid h; clear h
    go_enter Tryd.func29, Tryd.ntmps29
    go_wp2
    go_ret
    exact ⟨ret_int (by simp only [sextV]; rw [if_neg H.out]), rfl⟩

end Go.Proofs.YtaanmebebapbpaaDoor
