/-
  What the document's own base of layer 6 (package suzerainref06) is: contracts over the translation.
  Conditions: the arguments are numbers of their kinds.
-/
import Derived.Test.YtpbeamnogfjagaaGreatDoorEncRa0
namespace Go.Proofs.YtpbeamnogfjagaaGreatDoor.refEnc
open Go Go.RowKit F W M D E refWord
set_option linter.unusedVariables false
set_option maxRecDepth 100000
set_option maxHeartbeats 1000000 in
theorem base_neg (o : Int) (ho : I64 o) (h : o < 0) (w : World) :
    Calls Tryz.prog 20 #[.int .i64 o] w fun e w' => e = .returned (.int .u32 (baseV o : Nat)) ∧ w.grownBy w' none := by
  rw [base_no (Or.inl (by omega))]
  have n1 : decide (o ≥ 0) = false := by simp; omega
  have n1' : decide (0 ≤ o) = false := by simp; omega
  obtain ⟨at', ha⟩ : ∃ a, IntKind.i64.wrap (o - 76) = a := ⟨_, rfl⟩
  by_cases hs : -9223372036854775808 ≤ o - 76
  · have e1 : IntKind.i64.wrap (o - 76) = o - 76 := by rw [IntKind.wrap_i64]; omega
    have n2 : decide (0 ≤ o - 76) = false := by simp; omega
    have n3 : decide (11 ≤ o - 76) = false := by simp; omega
    go_enter Tryz.func20, Tryz.ntmps20
    go_wp2_with fail
    go_ret
    exact ⟨rfl, gr_alloc (gr_alloc (gr_refl _ _) _) _⟩
  · have e1 : IntKind.i64.wrap (o - 76) = o - 76 + 18446744073709551616 := by rw [IntKind.wrap_i64]; omega
    have n3 : decide (o - 76 + 18446744073709551616 < 11) = false := by simp; omega
    have n4 : decide (o - 76 + 18446744073709551616 < 22) = false := by simp; omega
    go_enter Tryz.func20, Tryz.ntmps20
    go_wp2_with fail
    go_ret
    exact ⟨rfl, gr_alloc (gr_alloc (gr_refl _ _) _) _⟩
set_option maxHeartbeats 1000000 in
theorem base_big (o : Int) (ho : I64 o) (h : 97 < o) (w : World) :
    Calls Tryz.prog 20 #[.int .i64 o] w fun e w' => e = .returned (.int .u32 (baseV o : Nat)) ∧ w.grownBy w' none := by
  rw [base_no (Or.inr (by omega))]
  have n1 : decide (o < 76) = false := by simp; omega
  have n3 : decide (o - 76 < 11) = false := by simp; omega
  have n4 : decide (o - 76 < 22) = false := by simp; omega
  go_enter Tryz.func20, Tryz.ntmps20
  go_wp2_with fail
  go_ret
  exact ⟨rfl, gr_alloc (gr_alloc (gr_refl _ _) _) _⟩
end Go.Proofs.YtpbeamnogfjagaaGreatDoor.refEnc
