/-
  DERIVED. GIVEN WITH THE SEED: THE CARDS: each row of YtmabfocpcbaniaaDoorRows.lean that lists a variable, with what it lists TIED to the program's text (the seventh form; the later family's looks); each row that meets fmt, with fmt's text TOLD by the authors' own Lean function (tested against real Go, not proved from fmt's source: count such statements apart). THE CARD IS WHAT COUNTS. Prove the row's statement (the work); the ties are given (YtmabfocpcbaniaaDoorTie.lean); close each card by the builder's one call (the guide's Derived/Test/ToyasCard.lean, 'card_holds'). Laid BY PROGRAM, IN A SANDBOX (cutbox-door.mjs). By AI agents, Wed Nov 11 2026. No macro, syntax, notation, axiom, sorry.
-/
import Derived.Test.YtmabfocpcbaniaaDoorRows
import GoSem.ClaimSeven
namespace Go.Proofs.YtmabfocpcbaniaaDoor
namespace Rows

/-- THE TIED CARD OF 'suzerainlaw07.AluAll'. -/
def aluAllCard : Claim7 := { stood := { row := aluAllRow, standIns := [], harness := (true, "f053542d1011ec4d679a08a86226c28570616c134fd3b4b88d7a1209d25f1ea1"), looks := false }, kinds := [], alts := [], laidByText := true, laidKinds := [.data], laidTests := true, laidLooks := .later }
def AluAllCardSaid : Prop := Claim7.holds Tryd.pinned (.plain (OpenSpec.ofChange aluAllSpec)) aluAllCard

/-- THE TIED CARD OF 'suzerainlaw07.AluHalves'. -/
def aluHalvesCard : Claim7 := { stood := { row := aluHalvesRow, standIns := [], harness := (true, "f053542d1011ec4d679a08a86226c28570616c134fd3b4b88d7a1209d25f1ea1"), looks := false }, kinds := [], alts := [], laidByText := true, laidKinds := [.data], laidTests := true, laidLooks := .later }
def AluHalvesCardSaid : Prop := Claim7.holds Tryd.pinned (.plain (OpenSpec.ofChange aluHalvesSpec)) aluHalvesCard

/-- THE TIED CARD OF 'suzerainlaw07.AluBranches'. -/
def aluBranchesCard : Claim7 := { stood := { row := aluBranchesRow, standIns := [], harness := (true, "f053542d1011ec4d679a08a86226c28570616c134fd3b4b88d7a1209d25f1ea1"), looks := false }, kinds := [], alts := [], laidByText := true, laidKinds := [.data], laidTests := true, laidLooks := .later }
def AluBranchesCardSaid : Prop := Claim7.holds Tryd.pinned (.plain (OpenSpec.ofChange aluBranchesSpec)) aluBranchesCard

/-- THE TIED CARD OF 'suzerainlaw07.AluNumbers'. -/
def aluNumbersCard : Claim7 := { stood := { row := aluNumbersRow, standIns := [], harness := (true, "f053542d1011ec4d679a08a86226c28570616c134fd3b4b88d7a1209d25f1ea1"), looks := false }, kinds := [], alts := [], laidByText := true, laidKinds := [.data], laidTests := true, laidLooks := .later }
def AluNumbersCardSaid : Prop := Claim7.holds Tryd.pinned (.plain (OpenSpec.ofChange aluNumbersSpec)) aluNumbersCard

/-- THE TIED CARD OF 'suzerainlaw07.AluDivides'. -/
def aluDividesCard : Claim7 := { stood := { row := aluDividesRow, standIns := [], harness := (true, "f053542d1011ec4d679a08a86226c28570616c134fd3b4b88d7a1209d25f1ea1"), looks := false }, kinds := [], alts := [], laidByText := true, laidKinds := [.data], laidTests := true, laidLooks := .later }
def AluDividesCardSaid : Prop := Claim7.holds Tryd.pinned (.plain (OpenSpec.ofChange aluDividesSpec)) aluDividesCard

/-- THE SECOND FORM's CARD OF 'suzerainlaw07.AluAll'. -/
def aluAllUptoCard : Claim7 := { stood := { row := aluAllUptoRow, standIns := [], harness := (true, "f053542d1011ec4d679a08a86226c28570616c134fd3b4b88d7a1209d25f1ea1"), looks := false }, kinds := [], alts := [], laidByText := true, laidKinds := [.data], laidTests := true, laidLooks := .later }
def AluAllUptoCardSaid : Prop := Claim7.holds Tryd.pinned (.plain (OpenSpec.upto aluAllSpec)) aluAllUptoCard

/-- THE SECOND FORM's CARD OF 'suzerainlaw07.AluHalves'. -/
def aluHalvesUptoCard : Claim7 := { stood := { row := aluHalvesUptoRow, standIns := [], harness := (true, "f053542d1011ec4d679a08a86226c28570616c134fd3b4b88d7a1209d25f1ea1"), looks := false }, kinds := [], alts := [], laidByText := true, laidKinds := [.data], laidTests := true, laidLooks := .later }
def AluHalvesUptoCardSaid : Prop := Claim7.holds Tryd.pinned (.plain (OpenSpec.upto aluHalvesSpec)) aluHalvesUptoCard

/-- THE SECOND FORM's CARD OF 'suzerainlaw07.AluBranches'. -/
def aluBranchesUptoCard : Claim7 := { stood := { row := aluBranchesUptoRow, standIns := [], harness := (true, "f053542d1011ec4d679a08a86226c28570616c134fd3b4b88d7a1209d25f1ea1"), looks := false }, kinds := [], alts := [], laidByText := true, laidKinds := [.data], laidTests := true, laidLooks := .later }
def AluBranchesUptoCardSaid : Prop := Claim7.holds Tryd.pinned (.plain (OpenSpec.upto aluBranchesSpec)) aluBranchesUptoCard

/-- THE SECOND FORM's CARD OF 'suzerainlaw07.AluNumbers'. -/
def aluNumbersUptoCard : Claim7 := { stood := { row := aluNumbersUptoRow, standIns := [], harness := (true, "f053542d1011ec4d679a08a86226c28570616c134fd3b4b88d7a1209d25f1ea1"), looks := false }, kinds := [], alts := [], laidByText := true, laidKinds := [.data], laidTests := true, laidLooks := .later }
def AluNumbersUptoCardSaid : Prop := Claim7.holds Tryd.pinned (.plain (OpenSpec.upto aluNumbersSpec)) aluNumbersUptoCard

/-- THE SECOND FORM's CARD OF 'suzerainlaw07.AluDivides'. -/
def aluDividesUptoCard : Claim7 := { stood := { row := aluDividesUptoRow, standIns := [], harness := (true, "f053542d1011ec4d679a08a86226c28570616c134fd3b4b88d7a1209d25f1ea1"), looks := false }, kinds := [], alts := [], laidByText := true, laidKinds := [.data], laidTests := true, laidLooks := .later }
def AluDividesUptoCardSaid : Prop := Claim7.holds Tryd.pinned (.plain (OpenSpec.upto aluDividesSpec)) aluDividesUptoCard
end Rows
end Go.Proofs.YtmabfocpcbaniaaDoor
