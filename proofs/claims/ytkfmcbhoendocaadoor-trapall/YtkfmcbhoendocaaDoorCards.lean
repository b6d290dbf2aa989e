/-
  DERIVED. GIVEN WITH THE SEED: THE CARDS: each row of YtkfmcbhoendocaaDoorRows.lean that lists a variable, with what it lists TIED to the program's text (the seventh form; the later family's looks); each row that meets fmt, with fmt's text TOLD by the authors' own Lean function (tested against real Go, not proved from fmt's source: count such statements apart). THE CARD IS WHAT COUNTS. Prove the row's statement (the work); the ties are given (YtkfmcbhoendocaaDoorTie.lean); close each card by the builder's one call (the guide's Derived/Test/ToyasCard.lean, 'card_holds'). Laid BY PROGRAM, IN A SANDBOX (cutbox-door.mjs). By AI agents, Wed Nov 11 2026. No macro, syntax, notation, axiom, sorry.
-/
import Derived.Test.YtkfmcbhoendocaaDoorRows
import GoSem.ClaimSeven
namespace Go.Proofs.YtkfmcbhoendocaaDoor
namespace Rows

/-- THE TIED CARD OF 'suzerainlaw14.TrapAll'. -/
def trapAllCard : Claim7 := { stood := { row := trapAllRow, standIns := [], harness := (true, "8e6e553f6c7ced0dfb6e7eaba441bf0be50b2fff110c9f9a613823ef96ea14d8"), looks := false }, kinds := [], alts := [], laidByText := true, laidKinds := [.data], laidTests := true, laidLooks := .later }
def TrapAllCardSaid : Prop := Claim7.holds Tryd.pinned (.plain (OpenSpec.ofChange trapAllSpec)) trapAllCard

/-- THE TIED CARD OF 'suzerainlaw14.TrapBack'. -/
def trapBackCard : Claim7 := { stood := { row := trapBackRow, standIns := [], harness := (true, "8e6e553f6c7ced0dfb6e7eaba441bf0be50b2fff110c9f9a613823ef96ea14d8"), looks := false }, kinds := [], alts := [], laidByText := true, laidKinds := [.data], laidTests := true, laidLooks := .later }
def TrapBackCardSaid : Prop := Claim7.holds Tryd.pinned (.plain (OpenSpec.ofChange trapBackSpec)) trapBackCard

/-- THE TIED CARD OF 'suzerainlaw14.TrapTakes'. -/
def trapTakesCard : Claim7 := { stood := { row := trapTakesRow, standIns := [], harness := (true, "8e6e553f6c7ced0dfb6e7eaba441bf0be50b2fff110c9f9a613823ef96ea14d8"), looks := false }, kinds := [], alts := [], laidByText := true, laidKinds := [.data], laidTests := true, laidLooks := .later }
def TrapTakesCardSaid : Prop := Claim7.holds Tryd.pinned (.plain (OpenSpec.ofChange trapTakesSpec)) trapTakesCard

/-- THE SECOND FORM's CARD OF 'suzerainlaw14.TrapAll'. -/
def trapAllUptoCard : Claim7 := { stood := { row := trapAllUptoRow, standIns := [], harness := (true, "8e6e553f6c7ced0dfb6e7eaba441bf0be50b2fff110c9f9a613823ef96ea14d8"), looks := false }, kinds := [], alts := [], laidByText := true, laidKinds := [.data], laidTests := true, laidLooks := .later }
def TrapAllUptoCardSaid : Prop := Claim7.holds Tryd.pinned (.plain (OpenSpec.upto trapAllSpec)) trapAllUptoCard

/-- THE SECOND FORM's CARD OF 'suzerainlaw14.TrapBack'. -/
def trapBackUptoCard : Claim7 := { stood := { row := trapBackUptoRow, standIns := [], harness := (true, "8e6e553f6c7ced0dfb6e7eaba441bf0be50b2fff110c9f9a613823ef96ea14d8"), looks := false }, kinds := [], alts := [], laidByText := true, laidKinds := [.data], laidTests := true, laidLooks := .later }
def TrapBackUptoCardSaid : Prop := Claim7.holds Tryd.pinned (.plain (OpenSpec.upto trapBackSpec)) trapBackUptoCard

/-- THE SECOND FORM's CARD OF 'suzerainlaw14.TrapTakes'. -/
def trapTakesUptoCard : Claim7 := { stood := { row := trapTakesUptoRow, standIns := [], harness := (true, "8e6e553f6c7ced0dfb6e7eaba441bf0be50b2fff110c9f9a613823ef96ea14d8"), looks := false }, kinds := [], alts := [], laidByText := true, laidKinds := [.data], laidTests := true, laidLooks := .later }
def TrapTakesUptoCardSaid : Prop := Claim7.holds Tryd.pinned (.plain (OpenSpec.upto trapTakesSpec)) trapTakesUptoCard
end Rows
end Go.Proofs.YtkfmcbhoendocaaDoor
