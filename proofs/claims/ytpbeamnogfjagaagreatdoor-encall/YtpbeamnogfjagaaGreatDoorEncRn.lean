/-
  What the document's own Name of layer 6 (package suzerainref06) is: contracts over the translation.
  Conditions: the arguments are numbers of their kinds.
-/
import Derived.Test.YtpbeamnogfjagaaGreatDoorEncRn1
import Derived.Test.YtpbeamnogfjagaaGreatDoorEncRn2
import Derived.Test.YtpbeamnogfjagaaGreatDoorEncRn3
namespace Go.Proofs.YtpbeamnogfjagaaGreatDoor.refEnc
open Go Go.RowKit F W M D E
set_option linter.unusedVariables false
set_option maxRecDepth 100000
theorem rName_c (o : Int) (ho : I64 o) (w : World) :
    Calls Tryz.prog 12 #[.int .i64 o] w fun e w' => e = .returned (.string (txt (nameV o))) ∧ w.grownBy w' none := by
  rcases (show o < 0 ∨ (0 ≤ o ∧ o < 76) ∨ (76 ≤ o ∧ o < 87) ∨ (87 ≤ o ∧ o ≤ 97) ∨ 97 < o by omega) with h | h | h | h | h
  · exact name_neg o ho h w
  · obtain ⟨k, rfl⟩ : ∃ k : Nat, o = k := ⟨o.toNat, by omega⟩
    exact name_low k (by omega) w
  · obtain ⟨k, rfl⟩ : ∃ k : Nat, o = 76 + (k : Int) := ⟨(o - 76).toNat, by omega⟩
    exact name_w k (by omega) w
  · obtain ⟨k, rfl⟩ : ∃ k : Nat, o = 87 + (k : Int) := ⟨(o - 87).toNat, by omega⟩
    exact name_d k (by omega) w
  · exact name_big o ho h w
end Go.Proofs.YtpbeamnogfjagaaGreatDoor.refEnc
