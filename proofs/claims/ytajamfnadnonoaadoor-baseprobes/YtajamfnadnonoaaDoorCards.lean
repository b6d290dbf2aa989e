/-
  DERIVED. GIVEN WITH THE SEED: THE CARDS: each row of YtajamfnadnonoaaDoorRows.lean that lists a variable, with what it lists TIED to the program's text (the seventh form; the later family's looks); each row that meets fmt, with fmt's text TOLD by the authors' own Lean function (tested against real Go, not proved from fmt's source: count such statements apart). THE CARD IS WHAT COUNTS. Prove the row's statement (the work); the ties are given (YtajamfnadnonoaaDoorTie.lean); close each card by the builder's one call (the guide's Derived/Test/ToyasCard.lean, 'card_holds'). Laid BY PROGRAM, IN A SANDBOX (cutbox-door.mjs). By AI agents, Wed Nov 11 2026. No macro, syntax, notation, axiom, sorry.
-/
import Derived.Test.YtajamfnadnonoaaDoorRows
import GoSem.ClaimSeven
namespace Go.Proofs.YtajamfnadnonoaaDoor
namespace Rows

/-- THE TIED CARD OF 'suzerainlaw17.BaseAll'. -/
def baseAllCard : Claim7 := { stood := { row := baseAllRow, standIns := [], harness := (true, "ebeee08e3815e2b4499081712df606497d0b2e0b920ece7d9eee0a03799f0bab"), looks := false }, kinds := [], alts := [], laidByText := true, laidKinds := [.data], laidTests := true, laidLooks := .later }
def BaseAllCardSaid : Prop := Claim7.holds Tryd.pinned (.plain (OpenSpec.ofChange baseAllSpec)) baseAllCard

/-- THE TIED CARD OF 'suzerainlaw17.BaseProbes'. -/
def baseProbesCard : Claim7 := { stood := { row := baseProbesRow, standIns := [], harness := (true, "ebeee08e3815e2b4499081712df606497d0b2e0b920ece7d9eee0a03799f0bab"), looks := false }, kinds := [], alts := [], laidByText := true, laidKinds := [.data], laidTests := true, laidLooks := .later }
def BaseProbesCardSaid : Prop := Claim7.holds Tryd.pinned (.plain (OpenSpec.ofChange baseProbesSpec)) baseProbesCard

/-- THE SECOND FORM's CARD OF 'suzerainlaw17.BaseAll'. -/
def baseAllUptoCard : Claim7 := { stood := { row := baseAllUptoRow, standIns := [], harness := (true, "ebeee08e3815e2b4499081712df606497d0b2e0b920ece7d9eee0a03799f0bab"), looks := false }, kinds := [], alts := [], laidByText := true, laidKinds := [.data], laidTests := true, laidLooks := .later }
def BaseAllUptoCardSaid : Prop := Claim7.holds Tryd.pinned (.plain (OpenSpec.upto baseAllSpec)) baseAllUptoCard

/-- THE SECOND FORM's CARD OF 'suzerainlaw17.BaseProbes'. -/
def baseProbesUptoCard : Claim7 := { stood := { row := baseProbesUptoRow, standIns := [], harness := (true, "ebeee08e3815e2b4499081712df606497d0b2e0b920ece7d9eee0a03799f0bab"), looks := false }, kinds := [], alts := [], laidByText := true, laidKinds := [.data], laidTests := true, laidLooks := .later }
def BaseProbesUptoCardSaid : Prop := Claim7.holds Tryd.pinned (.plain (OpenSpec.upto baseProbesSpec)) baseProbesUptoCard
end Rows
end Go.Proofs.YtajamfnadnonoaaDoor
