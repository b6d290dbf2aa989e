/-
  What the document's own Name of layer 6 (package suzerainref06) is: contracts over the translation.
  Conditions: the arguments are numbers of their kinds.
-/
import Derived.Test.YtpbeamnogfjagaaGreatDoorEncRn0
namespace Go.Proofs.YtpbeamnogfjagaaGreatDoor.refEnc
open Go Go.RowKit F W M D E
set_option linter.unusedVariables false
set_option maxRecDepth 100000
set_option maxHeartbeats 2000000 in
theorem name_neg (o : Int) (ho : I64 o) (h : o < 0) (w : World) :
    Calls Tryz.prog 12 #[.int .i64 o] w fun e w' => e = .returned (.string (txt (nameV o))) ∧ w.grownBy w' none := by
  rw [nameV, if_pos (by omega)]
  go_enter Tryz.func12, Tryz.ntmps12
  go_wp2_with fail
  go_ret
  exact ⟨rfl, gr_alloc (gr_alloc (gr_refl _ _) _) _⟩
set_option maxHeartbeats 2000000 in
theorem name_low (k : Nat) (hk : k < 76) (w : World) :
    Calls Tryz.prog 12 #[.int .i64 (k : Int)] w fun e w' => e = .returned (.string (txt (nameV (k : Int)))) ∧ w.grownBy w' none := by
  rw [nameV, if_neg (by omega), if_pos (by omega), Int.toNat_natCast]
  have hc := cell_nam w k hk
  have hki : (k : Int) < 76 := by omega
  generalize txt (namL.getD k []) = s at *
  go_enter Tryz.func12, Tryz.ntmps12
  go_wp2_with fail
  go_ret
  exact ⟨rfl, gr_alloc (gr_alloc (gr_refl _ _) _) _⟩
end Go.Proofs.YtpbeamnogfjagaaGreatDoor.refEnc
