/-
  What the document's own base of layer 6 (package suzerainref06) is: contracts over the translation.
  What the document's own base of layer 6 (package suzerainref06) is: contracts over the translation.
  Conditions: each part's own: the arguments are numbers of their kinds; the tables hold what the program's text lays.
-/
import Derived.Test.YtpbeamnogfjagaaGreatDoorEncRa0
section
namespace Go.Proofs.YtpbeamnogfjagaaGreatDoor.refEnc
open Go Go.RowKit F W M D E refWord
set_option linter.unusedVariables false
set_option maxRecDepth 100000
set_option maxHeartbeats 1000000 in
theorem base_low (k : Nat) (hk : k < 76) (w : World) :
    Calls Tryz.prog 20 #[.int .i64 k] w fun e w' => e = .returned (.int .u32 (baseV k : Nat)) ∧ w.grownBy w' none := by
  have hc := cell_low w k hk
  have HB := Lib.hid (low_base k hk)
  have hki : (k : Int) < 76 := by omega
  generalize lowL.getD k 0 = v at *
  go_enter Tryz.func20, Tryz.ntmps20
  go_wp2_with fail
  go_ret
  exact ⟨ret_int HB.out, gr_alloc (gr_refl _ _) _⟩
end Go.Proofs.YtpbeamnogfjagaaGreatDoor.refEnc
end

section
namespace Go.Proofs.YtpbeamnogfjagaaGreatDoor.refEnc
open Go Go.RowKit F W M D E refWord
set_option linter.unusedVariables false
set_option maxRecDepth 100000
set_option maxHeartbeats 1000000 in
theorem base_w (k : Nat) (hk : k < 11) (w : World) :
    Calls Tryz.prog 20 #[.int .i64 (76 + (k : Int))] w fun e w' => e = .returned (.int .u32 (baseV (76 + (k : Int)) : Nat)) ∧ w.grownBy w' none := by
  have hc := cell_five (w.alloc (.cells #[.int .u32 0, .int .u32 55, .int .u32 23, .int .u32 111, .int .u32 103, .int .u32 99, .int .u32 4195, .int .u32 16483, .int .u32 20579, .int .u32 24675, .int .u32 28771, .int .u32 3, .int .u32 4099, .int .u32 8195, .int .u32 12291, .int .u32 16387, .int .u32 20483, .int .u32 24579, .int .u32 35, .int .u32 4131, .int .u32 8227, .int .u32 12323, .int .u32 19, .int .u32 8211, .int .u32 12307, .int .u32 16403, .int .u32 24595, .int .u32 28691, .int .u32 4115, .int .u32 20499, .int .u32 1073762323, .int .u32 51, .int .u32 1073741875, .int .u32 4147, .int .u32 8243, .int .u32 12339, .int .u32 16435, .int .u32 20531, .int .u32 1073762355, .int .u32 24627, .int .u32 28723, .int .u32 27, .int .u32 4123, .int .u32 20507, .int .u32 1073762331, .int .u32 59, .int .u32 1073741883, .int .u32 4155, .int .u32 20539, .int .u32 1073762363, .int .u32 33554483, .int .u32 33558579, .int .u32 33562675, .int .u32 33566771, .int .u32 33570867, .int .u32 33574963, .int .u32 33579059, .int .u32 33583155, .int .u32 33554491, .int .u32 33570875, .int .u32 33574971, .int .u32 33579067, .int .u32 33583163, .int .u32 15, .int .u32 4111, .int .u32 115, .int .u32 1048691, .int .u32 270532723, .int .u32 273678451, .int .u32 301990003, .int .u32 4211, .int .u32 8307, .int .u32 12403, .int .u32 20595, .int .u32 24691, .int .u32 28787] 25)) k hk
  rw [sz] at hc
  obtain ⟨b1, _, b3, b4⟩ := five_base k hk
  have HB := Lib.hid b1
  clear b1
  have hki : (k : Int) < 11 := by omega
  have n1 : decide (76 + (k : Int) < 76) = false := by simp; omega
  have e1 : 76 + (k : Int) - 76 = k := by omega
  generalize fiveL.getD k 0 = v at *
  go_enter Tryz.func20, Tryz.ntmps20
  go_wp2_with fail
  go_ret
  exact ⟨ret_int HB.out, gr_alloc (gr_alloc (gr_refl _ _) _) _⟩
set_option maxHeartbeats 1000000 in
theorem base_d (k : Nat) (hk : k < 11) (w : World) :
    Calls Tryz.prog 20 #[.int .i64 (87 + (k : Int))] w fun e w' => e = .returned (.int .u32 (baseV (87 + (k : Int)) : Nat)) ∧ w.grownBy w' none := by
  have hc := cell_five (w.alloc (.cells #[.int .u32 0, .int .u32 55, .int .u32 23, .int .u32 111, .int .u32 103, .int .u32 99, .int .u32 4195, .int .u32 16483, .int .u32 20579, .int .u32 24675, .int .u32 28771, .int .u32 3, .int .u32 4099, .int .u32 8195, .int .u32 12291, .int .u32 16387, .int .u32 20483, .int .u32 24579, .int .u32 35, .int .u32 4131, .int .u32 8227, .int .u32 12323, .int .u32 19, .int .u32 8211, .int .u32 12307, .int .u32 16403, .int .u32 24595, .int .u32 28691, .int .u32 4115, .int .u32 20499, .int .u32 1073762323, .int .u32 51, .int .u32 1073741875, .int .u32 4147, .int .u32 8243, .int .u32 12339, .int .u32 16435, .int .u32 20531, .int .u32 1073762355, .int .u32 24627, .int .u32 28723, .int .u32 27, .int .u32 4123, .int .u32 20507, .int .u32 1073762331, .int .u32 59, .int .u32 1073741883, .int .u32 4155, .int .u32 20539, .int .u32 1073762363, .int .u32 33554483, .int .u32 33558579, .int .u32 33562675, .int .u32 33566771, .int .u32 33570867, .int .u32 33574963, .int .u32 33579059, .int .u32 33583155, .int .u32 33554491, .int .u32 33570875, .int .u32 33574971, .int .u32 33579067, .int .u32 33583163, .int .u32 15, .int .u32 4111, .int .u32 115, .int .u32 1048691, .int .u32 270532723, .int .u32 273678451, .int .u32 301990003, .int .u32 4211, .int .u32 8307, .int .u32 12403, .int .u32 20595, .int .u32 24691, .int .u32 28787] 25)) k hk
  rw [sz] at hc
  obtain ⟨_, b1, b3, b4⟩ := five_base k hk
  have HB := Lib.hid b1
  clear b1
  have hki : (k : Int) < 11 := by omega
  have n1 : decide (87 + (k : Int) < 76) = false := by simp; omega
  have e1 : 87 + (k : Int) - 76 = 11 + k := by omega
  have e2 : 11 + (k : Int) - 11 = k := by omega
  have n2 : decide (11 + (k : Int) < 11) = false := by simp; omega
  generalize fiveL.getD k 0 = v at *
  go_enter Tryz.func20, Tryz.ntmps20
  go_wp2_with fail
  go_ret
  exact ⟨ret_int HB.out, gr_alloc (gr_alloc (gr_refl _ _) _) _⟩
end Go.Proofs.YtpbeamnogfjagaaGreatDoor.refEnc
end
