/-
  A block that is laid makes memory one block longer.
  Conditions: the tables hold what the program's text lays.
-/
import Derived.Test.YtpbeamnogfjagaaGreatDoorEncSh
import Derived.Lib.Hide
import Derived.Deep.QuietTactic
import Derived.BigQuiet
namespace Go.Proofs.YtpbeamnogfjagaaGreatDoor.E
open Go Go.RowKit F W M D
set_option linter.unusedVariables false
theorem sz (w : World) (o : Obj) : (w.alloc o).heap.size = w.heap.size + 1 := by
  show (w.heap.push _).size = _
  rw [Array.size_push]
end Go.Proofs.YtpbeamnogfjagaaGreatDoor.E
