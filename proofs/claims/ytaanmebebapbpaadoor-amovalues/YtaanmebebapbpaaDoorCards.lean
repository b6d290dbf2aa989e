/-
  DERIVED. GIVEN WITH THE SEED: THE CARDS: each row of YtaanmebebapbpaaDoorRows.lean that lists a variable, with what it lists TIED to the program's text (the seventh form; the later family's looks); each row that meets fmt, with fmt's text TOLD by the authors' own Lean function (tested against real Go, not proved from fmt's source: count such statements apart). THE CARD IS WHAT COUNTS. Prove the row's statement (the work); the ties are given (YtaanmebebapbpaaDoorTie.lean); close each card by the builder's one call (the guide's Derived/Test/ToyasCard.lean, 'card_holds'). Laid BY PROGRAM, IN A SANDBOX (cutbox-door.mjs). By AI agents, Wed Nov 11 2026. No macro, syntax, notation, axiom, sorry.
-/
import Derived.Test.YtaanmebebapbpaaDoorRows
import GoSem.ClaimSeven
namespace Go.Proofs.YtaanmebebapbpaaDoor
namespace Rows

/-- THE TIED CARD OF 'suzerainlaw08.AmoAll'. -/
def amoAllCard : Claim7 := { stood := { row := amoAllRow, standIns := [], harness := (true, "31207531034b7620e56e914a189728be8f7cc7a00cfb548c6c1a0ec61e101d21"), looks := false }, kinds := [], alts := [], laidByText := true, laidKinds := [.data], laidTests := true, laidLooks := .later }
def AmoAllCardSaid : Prop := Claim7.holds Tryd.pinned (.plain (OpenSpec.ofChange amoAllSpec)) amoAllCard

/-- THE TIED CARD OF 'suzerainlaw08.AmoPlays'. -/
def amoPlaysCard : Claim7 := { stood := { row := amoPlaysRow, standIns := [], harness := (true, "31207531034b7620e56e914a189728be8f7cc7a00cfb548c6c1a0ec61e101d21"), looks := false }, kinds := [], alts := [], laidByText := true, laidKinds := [.data], laidTests := true, laidLooks := .later }
def AmoPlaysCardSaid : Prop := Claim7.holds Tryd.pinned (.plain (OpenSpec.ofChange amoPlaysSpec)) amoPlaysCard

/-- THE TIED CARD OF 'suzerainlaw08.AmoValues'. -/
def amoValuesCard : Claim7 := { stood := { row := amoValuesRow, standIns := [], harness := (true, "31207531034b7620e56e914a189728be8f7cc7a00cfb548c6c1a0ec61e101d21"), looks := false }, kinds := [], alts := [], laidByText := true, laidKinds := [.data], laidTests := true, laidLooks := .later }
def AmoValuesCardSaid : Prop := Claim7.holds Tryd.pinned (.plain (OpenSpec.ofChange amoValuesSpec)) amoValuesCard

/-- THE TIED CARD OF 'suzerainlaw08.AmoOne'. -/
def amoOneCard : Claim7 := { stood := { row := amoOneRow, standIns := [], harness := (true, "31207531034b7620e56e914a189728be8f7cc7a00cfb548c6c1a0ec61e101d21"), looks := false }, kinds := [], alts := [], laidByText := true, laidKinds := [.data], laidTests := true, laidLooks := .later }
def AmoOneCardSaid : Prop := Claim7.holds Tryd.pinned (.plain (OpenSpec.ofChange amoOneSpec)) amoOneCard

/-- THE TIED CARD OF 'suzerainlaw08.AmoSwaps'. -/
def amoSwapsCard : Claim7 := { stood := { row := amoSwapsRow, standIns := [], harness := (true, "31207531034b7620e56e914a189728be8f7cc7a00cfb548c6c1a0ec61e101d21"), looks := false }, kinds := [], alts := [], laidByText := true, laidKinds := [.data], laidTests := true, laidLooks := .later }
def AmoSwapsCardSaid : Prop := Claim7.holds Tryd.pinned (.plain (OpenSpec.ofChange amoSwapsSpec)) amoSwapsCard

/-- THE TIED CARD OF 'suzerainlaw08.AmoStores'. -/
def amoStoresCard : Claim7 := { stood := { row := amoStoresRow, standIns := [], harness := (true, "31207531034b7620e56e914a189728be8f7cc7a00cfb548c6c1a0ec61e101d21"), looks := false }, kinds := [], alts := [], laidByText := true, laidKinds := [.data], laidTests := true, laidLooks := .later }
def AmoStoresCardSaid : Prop := Claim7.holds Tryd.pinned (.plain (OpenSpec.ofChange amoStoresSpec)) amoStoresCard

/-- THE SECOND FORM's CARD OF 'suzerainlaw08.AmoAll'. -/
def amoAllUptoCard : Claim7 := { stood := { row := amoAllUptoRow, standIns := [], harness := (true, "31207531034b7620e56e914a189728be8f7cc7a00cfb548c6c1a0ec61e101d21"), looks := false }, kinds := [], alts := [], laidByText := true, laidKinds := [.data], laidTests := true, laidLooks := .later }
def AmoAllUptoCardSaid : Prop := Claim7.holds Tryd.pinned (.plain (OpenSpec.upto amoAllSpec)) amoAllUptoCard

/-- THE SECOND FORM's CARD OF 'suzerainlaw08.AmoPlays'. -/
def amoPlaysUptoCard : Claim7 := { stood := { row := amoPlaysUptoRow, standIns := [], harness := (true, "31207531034b7620e56e914a189728be8f7cc7a00cfb548c6c1a0ec61e101d21"), looks := false }, kinds := [], alts := [], laidByText := true, laidKinds := [.data], laidTests := true, laidLooks := .later }
def AmoPlaysUptoCardSaid : Prop := Claim7.holds Tryd.pinned (.plain (OpenSpec.upto amoPlaysSpec)) amoPlaysUptoCard

/-- THE SECOND FORM's CARD OF 'suzerainlaw08.AmoValues'. -/
def amoValuesUptoCard : Claim7 := { stood := { row := amoValuesUptoRow, standIns := [], harness := (true, "31207531034b7620e56e914a189728be8f7cc7a00cfb548c6c1a0ec61e101d21"), looks := false }, kinds := [], alts := [], laidByText := true, laidKinds := [.data], laidTests := true, laidLooks := .later }
def AmoValuesUptoCardSaid : Prop := Claim7.holds Tryd.pinned (.plain (OpenSpec.upto amoValuesSpec)) amoValuesUptoCard

/-- THE SECOND FORM's CARD OF 'suzerainlaw08.AmoOne'. -/
def amoOneUptoCard : Claim7 := { stood := { row := amoOneUptoRow, standIns := [], harness := (true, "31207531034b7620e56e914a189728be8f7cc7a00cfb548c6c1a0ec61e101d21"), looks := false }, kinds := [], alts := [], laidByText := true, laidKinds := [.data], laidTests := true, laidLooks := .later }
def AmoOneUptoCardSaid : Prop := Claim7.holds Tryd.pinned (.plain (OpenSpec.upto amoOneSpec)) amoOneUptoCard

/-- THE SECOND FORM's CARD OF 'suzerainlaw08.AmoSwaps'. -/
def amoSwapsUptoCard : Claim7 := { stood := { row := amoSwapsUptoRow, standIns := [], harness := (true, "31207531034b7620e56e914a189728be8f7cc7a00cfb548c6c1a0ec61e101d21"), looks := false }, kinds := [], alts := [], laidByText := true, laidKinds := [.data], laidTests := true, laidLooks := .later }
def AmoSwapsUptoCardSaid : Prop := Claim7.holds Tryd.pinned (.plain (OpenSpec.upto amoSwapsSpec)) amoSwapsUptoCard

/-- THE SECOND FORM's CARD OF 'suzerainlaw08.AmoStores'. -/
def amoStoresUptoCard : Claim7 := { stood := { row := amoStoresUptoRow, standIns := [], harness := (true, "31207531034b7620e56e914a189728be8f7cc7a00cfb548c6c1a0ec61e101d21"), looks := false }, kinds := [], alts := [], laidByText := true, laidKinds := [.data], laidTests := true, laidLooks := .later }
def AmoStoresUptoCardSaid : Prop := Claim7.holds Tryd.pinned (.plain (OpenSpec.upto amoStoresSpec)) amoStoresUptoCard
end Rows
end Go.Proofs.YtaanmebebapbpaaDoor
