/-
  What the document's own Name of layer 6 (package suzerainref06) is: contracts over the translation.
  Conditions: the arguments are numbers of their kinds.
-/
import Derived.Test.YtpbeamnogfjagaaGreatDoorEncRn0
namespace Go.Proofs.YtpbeamnogfjagaaGreatDoor.refEnc
open Go Go.RowKit F W M D E
set_option linter.unusedVariables false
set_option maxRecDepth 100000
set_option maxHeartbeats 2000000 in
theorem name_big (o : Int) (ho : I64 o) (h : 97 < o) (w : World) :
    Calls Tryz.prog 12 #[.int .i64 o] w fun e w' => e = .returned (.string (txt (nameV o))) ∧ w.grownBy w' none := by
  rw [nameV, if_pos (by omega)]
  have n0 : decide (o < 0) = false := by simp; omega
  have n1 : decide (o < 76) = false := by simp; omega
  have n3 : decide (o - 76 < 11) = false := by simp; omega
  have n4 : decide (o - 76 < 22) = false := by simp; omega
  go_enter Tryz.func12, Tryz.ntmps12
  go_wp2_with fail
  go_ret
  exact ⟨rfl, gr_alloc (gr_alloc (gr_refl _ _) _) _⟩
set_option maxHeartbeats 2000000 in
theorem name_w (k : Nat) (hk : k < 11) (w : World) :
    Calls Tryz.prog 12 #[.int .i64 (76 + (k : Int))] w fun e w' => e = .returned (.string (txt (nameV (76 + (k : Int))))) ∧ w.grownBy w' none := by
  rw [nameV, if_neg (by omega), if_neg (by omega), if_pos (by omega), show (76 + (k : Int) - 76).toNat = k by omega]
  have hc := cell_ato w k hk
  have hki : (k : Int) < 11 := by omega
  have n0 : decide (76 + (k : Int) < 0) = false := by simp; omega
  have n1 : decide (76 + (k : Int) < 76) = false := by simp; omega
  have e1 : 76 + (k : Int) - 76 = k := by omega
  have hz : (txt (atoL.getD k [])).size ≤ 100 := by rw [txt_size]; exact ato_len k (by omega)
  have HA := Lib.hid (txt_app (atoL.getD k []) [119])
  generalize atoL.getD k [] = l at *
  generalize txt l = s at *
  go_enter Tryz.func12, Tryz.ntmps12
  go_wp2_with fail
  go_ret
  exact ⟨by rw [← HA.out]; rfl, gr_alloc (gr_alloc (gr_refl _ _) _) _⟩
end Go.Proofs.YtpbeamnogfjagaaGreatDoor.refEnc
