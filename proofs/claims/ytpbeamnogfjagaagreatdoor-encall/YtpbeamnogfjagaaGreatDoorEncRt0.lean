/-
  What the document's own Text of layer 6 (package suzerainref06) is: it answers as the program's: contracts over the translation.
  Conditions: the arguments are numbers of their kinds; the tables hold what the program's text lays.
-/
import Derived.Test.YtpbeamnogfjagaaGreatDoorEncRn
import Derived.Test.YtpbeamnogfjagaaGreatDoorDecR
import Derived.Deep.RegionHeld3
namespace Go.Proofs.YtpbeamnogfjagaaGreatDoor.refEnc
open Go Go.RowKit F W M D E refWord
set_option linter.unusedVariables false
set_option maxRecDepth 100000

theorem reg_c (r : Int) (hr : I64 r) (w : World) (h : Tabs w) :
    Calls Tryz.prog 25 #[.int .i64 r] w fun e w' => e = .returned (.string (txt (32 :: regT r))) ∧ w.grownBy w' none := by
  have HA := Lib.hid (show txt (32 :: regT r) = txt [32, 120] ++ txt (Lib.itoa r) from by rw [txt_app]; rfl)
  have hz := itoa_size r hr
  have HC := Lib.hid (itoa_c r hr w h)
  obtain ⟨s, hs⟩ : ∃ s, s = txt (Lib.itoa r) := ⟨_, rfl⟩
  rw [← hs] at HA HC hz
  clear hs
  go_enter Tryz.func25, Tryz.ntmps25
  go_wp2_with fail
  refine HC.out.mono ?_
  rintro e w1 ⟨rfl, hG⟩
  go_wp2_with fail
  go_ret
  exact ⟨by rw [HA.out]; rfl, hG⟩
theorem join0 (n : Bytes) : txt (Lib.join [n] [32]) = txt n := by simp [Lib.join_one]
theorem join2 (n a b : Bytes) : txt (Lib.join [n, a, b] [32]) = txt n ++ txt (32 :: a) ++ txt (32 :: b) := by
  rw [txt_app, txt_app]; congr 1; simp [Lib.join_cons, Lib.joinTail]
theorem join3 (n a b c : Bytes) : txt (Lib.join [n, a, b, c] [32]) = txt n ++ txt (32 :: a) ++ txt (32 :: b) ++ txt (32 :: c) := by
  rw [txt_app, txt_app, txt_app]; congr 1; simp [Lib.join_cons, Lib.joinTail]
theorem reg_size {r : Int} (hr : I64 r) : (txt (32 :: regT r)).size ≤ 30 := by
  rw [txt_size]; have := reg_len hr; simp; omega
theorem name_size (o : Int) : (txt (nameV o)).size ≤ 30 := by rw [txt_size]; have := name_len o; omega
end Go.Proofs.YtpbeamnogfjagaaGreatDoor.refEnc
