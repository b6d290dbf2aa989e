/-
  From the row's condition to the walks': the table of package decode's kinds holds what the program's text lays.
  Conditions: none beyond the rows' own.
-/
import Derived.Test.YtaanmebebapbpaaDoorRows
import Derived.Test.YtaanmebebapbpaaDoorAmoK
import Derived.Lib.LaidTab
import Derived.ProofKit
import Derived.LaidMore
import Derived.OpenShut
import Derived.Stop.Joined
namespace Go.Proofs.YtaanmebebapbpaaDoor
open Go Go.RowKit D

def laidL : List (String × DataW Unit) := [("suzerain/decode.lastOf", Rows.laid_suzerain_decode_lastOf)]
theorem gTab : Tryd.prog.globalNamed "suzerain/decode.lastOf" = some 0 := by kernel_rfl
theorem tTab : (Tryd.prog.globals[0]?).map (·.type) = some 68 := by kernel_rfl
theorem door_met (os : Os) (args : Array Value) : laidMetH Tryd.prog laidL ((World.doorLaid Tryd.prog 400 os).forCall (fun _ _ => 0) ⟨#[], args, []⟩).memory :=
  laidMetH_of_parts3 (fuel := 8) (laidMet_of_run' 8 (by kernel_rfl) (by kernel_rfl)) (by kernel_rfl) (by kernel_rfl)
theorem of_laid {W : World} (h : laidMetH Tryd.prog laidL W) : Tbl W := by
  rw [MakeChecks.laidMetH_plain _ _ _ (by kernel_rfl)] at h
  have hT := Lib.tabIs_of_head (k := .i64) (zs := lasts) (rest := []) gTab tTab Tryd.underlying68 Tryd.underlying3 (by kernel_rfl) (by kernel_rfl) h
  intro i hi
  exact hT.cell gTab i hi
end Go.Proofs.YtaanmebebapbpaaDoor
