/-
  Plain mathematics of layer 6 (enc): the names of ops.
  Conditions: none; nothing here speaks of the program.
-/
import Derived.Test.YtpbeamnogfjagaaGreatDoorEncX
namespace Go.Proofs.YtpbeamnogfjagaaGreatDoor.E
open Go Go.RowKit F D
set_option linter.unusedVariables false

abbrev Bytes := List UInt8
/-- A text of these bytes. -/
def txt (l : Bytes) : ByteArray := ⟨l.toArray⟩
theorem txt_inj {a b : Bytes} (h : txt a = txt b) : a = b := by
  unfold txt at h
  injection h with h
  simpa using h
theorem txt_app (a b : Bytes) : txt a ++ txt b = txt (a ++ b) := by
  apply ByteArray.ext
  rw [ByteArray.data_append]
  simp [txt]
theorem txt_list (a : Bytes) : (txt a).data.toList = a := by simp [txt]
def namL : List Bytes := [[105, 108, 108, 101, 103, 97, 108], [108, 117, 105], [97, 117, 105, 112, 99], [106, 97, 108], [106, 97, 108, 114], [98, 101, 113], [98, 110, 101], [98, 108, 116], [98, 103, 101], [98, 108, 116, 117], [98, 103, 101, 117], [108, 98], [108, 104], [108, 119], [108, 100], [108, 98, 117], [108, 104, 117], [108, 119, 117], [115, 98], [115, 104], [115, 119], [115, 100], [97, 100, 100, 105], [115, 108, 116, 105], [115, 108, 116, 105, 117], [120, 111, 114, 105], [111, 114, 105], [97, 110, 100, 105], [115, 108, 108, 105], [115, 114, 108, 105], [115, 114, 97, 105], [97, 100, 100], [115, 117, 98], [115, 108, 108], [115, 108, 116], [115, 108, 116, 117], [120, 111, 114], [115, 114, 108], [115, 114, 97], [111, 114], [97, 110, 100], [97, 100, 100, 105, 119], [115, 108, 108, 105, 119], [115, 114, 108, 105, 119], [115, 114, 97, 105, 119], [97, 100, 100, 119], [115, 117, 98, 119], [115, 108, 108, 119], [115, 114, 108, 119], [115, 114, 97, 119], [109, 117, 108], [109, 117, 108, 104], [109, 117, 108, 104, 115, 117], [109, 117, 108, 104, 117], [100, 105, 118], [100, 105, 118, 117], [114, 101, 109], [114, 101, 109, 117], [109, 117, 108, 119], [100, 105, 118, 119], [100, 105, 118, 117, 119], [114, 101, 109, 119], [114, 101, 109, 117, 119], [102, 101, 110, 99, 101], [102, 101, 110, 99, 101, 105], [101, 99, 97, 108, 108], [101, 98, 114, 101, 97, 107], [115, 114, 101, 116], [119, 102, 105], [115, 102, 101, 110, 99, 101], [99, 115, 114, 114, 119], [99, 115, 114, 114, 115], [99, 115, 114, 114, 99], [99, 115, 114, 114, 119, 105], [99, 115, 114, 114, 115, 105], [99, 115, 114, 114, 99, 105]]
def atoL : List Bytes := [[108, 114, 46], [115, 99, 46], [97, 109, 111, 115, 119, 97, 112, 46], [97, 109, 111, 97, 100, 100, 46], [97, 109, 111, 120, 111, 114, 46], [97, 109, 111, 97, 110, 100, 46], [97, 109, 111, 111, 114, 46], [97, 109, 111, 109, 105, 110, 46], [97, 109, 111, 109, 97, 120, 46], [97, 109, 111, 109, 105, 110, 117, 46], [97, 109, 111, 109, 97, 120, 117, 46]]
/-- The name of an op. -/
def nameV (o : Int) : Bytes :=
  if o < 0 ∨ 97 < o then [] else if o < 76 then namL.getD o.toNat [] else if o < 87 then atoL.getD (o - 76).toNat [] ++ [119] else atoL.getD (o - 87).toNat [] ++ [100]
def fullL : List Bytes := namL ++ atoL.map (· ++ [119]) ++ atoL.map (· ++ [100])
theorem name_full (o : Int) : nameV o = if o < 0 then [] else fullL.getD o.toNat [] := by
  by_cases h : 0 ≤ o ∧ o ≤ 97
  · have := rng_at (a := 0) (b := 97) (P := fun o => decide (nameV o = if o < 0 then [] else fullL.getD o.toNat [])) (by decide +kernel) o (by omega)
    exact of_decide_eq_true this
  · unfold nameV
    rw [if_pos (by omega)]
    split
    · rfl
    · rw [List.getD_eq_getElem?_getD, List.getElem?_eq_none]
      · rfl
      · have : fullL.length = 98 := by decide +kernel
        omega
end Go.Proofs.YtpbeamnogfjagaaGreatDoor.E
