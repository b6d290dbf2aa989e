/-
  From the row's condition to the walks': the table of package trap's interrupts holds what the program's text lays.
  Conditions: none beyond the rows' own.
-/
import Derived.Test.YtkfmcbhoendocaaDoorRows
import Derived.Test.YtkfmcbhoendocaaDoorTrC
import Derived.Lib.LaidTab
import Derived.ProofKit
import Derived.LaidMore
import Derived.OpenShut
import Derived.Stop.Joined
namespace Go.Proofs.YtkfmcbhoendocaaDoor
open Go Go.RowKit D

def laidL : List (String × DataW Unit) := [("suzerain/trap.interrupts", Rows.laid_suzerain_trap_interrupts)]
theorem gTab : Tryd.prog.globalNamed "suzerain/trap.interrupts" = some 0 := by kernel_rfl
theorem tTab : (Tryd.prog.globals[0]?).map (·.type) = some 59 := by kernel_rfl
theorem door_met (os : Os) (args : Array Value) : laidMetH Tryd.prog laidL ((World.doorLaid Tryd.prog 400 os).forCall (fun _ _ => 0) ⟨#[], args, []⟩).memory :=
  laidMetH_of_parts3 (fuel := 8) (laidMet_of_run' 8 (by kernel_rfl) (by kernel_rfl)) (by kernel_rfl) (by kernel_rfl)
theorem of_laid {W : World} (h : laidMetH Tryd.prog laidL W) : Ints W := by
  rw [MakeChecks.laidMetH_plain _ _ _ (by kernel_rfl)] at h
  have hT := Lib.tabIs_of_head (k := .i64) (zs := [1, 5]) (rest := []) gTab tTab Tryd.underlying59 Tryd.underlying3 (by kernel_rfl) (by kernel_rfl) h
  exact ⟨hT.cell gTab 0 (by decide), hT.cell gTab 1 (by decide)⟩
end Go.Proofs.YtkfmcbhoendocaaDoor
