/-
  DERIVED. GIVEN WITH THE SEED: THE CARDS: each row of YtdcihcmhmgeheaaDoorRows.lean that lists a variable, with what it lists TIED to the program's text (the seventh form; the later family's looks); each row that meets fmt, with fmt's text TOLD by the authors' own Lean function (tested against real Go, not proved from fmt's source: count such statements apart). THE CARD IS WHAT COUNTS. Prove the row's statement (the work); the ties are given (YtdcihcmhmgeheaaDoorTie.lean); close each card by the builder's one call (the guide's Derived/Test/ToyasCard.lean, 'card_holds'). Laid BY PROGRAM, IN A SANDBOX (cutbox-door.mjs). By AI agents, Wed Nov 11 2026. No macro, syntax, notation, axiom, sorry.
-/
import Derived.Test.YtdcihcmhmgeheaaDoorRows
import GoSem.ClaimSeven
namespace Go.Proofs.YtdcihcmhmgeheaaDoor
namespace Rows

/-- THE TIED CARD OF 'suzerainlaw04.DecodeAll'. -/
def decodeAllCard : Claim7 := { stood := { row := decodeAllRow, standIns := [], harness := (true, "7849b47f98f0832acb1a4035c472c4c9086a66ce973dde5adbca576edec10596"), looks := false }, kinds := [], alts := [], laidByText := true, laidKinds := [.data], laidTests := true, laidLooks := .later }
def DecodeAllCardSaid : Prop := Claim7.holds Tryd.pinned (.plain (OpenSpec.ofChange decodeAllSpec)) decodeAllCard

/-- THE TIED CARD OF 'suzerainlaw04.DecodeFields'. -/
def decodeFieldsCard : Claim7 := { stood := { row := decodeFieldsRow, standIns := [], harness := (true, "7849b47f98f0832acb1a4035c472c4c9086a66ce973dde5adbca576edec10596"), looks := false }, kinds := [], alts := [], laidByText := true, laidKinds := [.data], laidTests := true, laidLooks := .later }
def DecodeFieldsCardSaid : Prop := Claim7.holds Tryd.pinned (.plain (OpenSpec.ofChange decodeFieldsSpec)) decodeFieldsCard

/-- THE TIED CARD OF 'suzerainlaw04.DecodeRegisters'. -/
def decodeRegistersCard : Claim7 := { stood := { row := decodeRegistersRow, standIns := [], harness := (true, "7849b47f98f0832acb1a4035c472c4c9086a66ce973dde5adbca576edec10596"), looks := false }, kinds := [], alts := [], laidByText := true, laidKinds := [.data], laidTests := true, laidLooks := .later }
def DecodeRegistersCardSaid : Prop := Claim7.holds Tryd.pinned (.plain (OpenSpec.ofChange decodeRegistersSpec)) decodeRegistersCard

/-- THE TIED CARD OF 'suzerainlaw04.DecodeKinds'. -/
def decodeKindsCard : Claim7 := { stood := { row := decodeKindsRow, standIns := [], harness := (true, "7849b47f98f0832acb1a4035c472c4c9086a66ce973dde5adbca576edec10596"), looks := false }, kinds := [], alts := [], laidByText := true, laidKinds := [.data], laidTests := true, laidLooks := .later }
def DecodeKindsCardSaid : Prop := Claim7.holds Tryd.pinned (.plain (OpenSpec.ofChange decodeKindsSpec)) decodeKindsCard

/-- THE SECOND FORM's CARD OF 'suzerainlaw04.DecodeAll'. -/
def decodeAllUptoCard : Claim7 := { stood := { row := decodeAllUptoRow, standIns := [], harness := (true, "7849b47f98f0832acb1a4035c472c4c9086a66ce973dde5adbca576edec10596"), looks := false }, kinds := [], alts := [], laidByText := true, laidKinds := [.data], laidTests := true, laidLooks := .later }
def DecodeAllUptoCardSaid : Prop := Claim7.holds Tryd.pinned (.plain (OpenSpec.upto decodeAllSpec)) decodeAllUptoCard

/-- THE SECOND FORM's CARD OF 'suzerainlaw04.DecodeFields'. -/
def decodeFieldsUptoCard : Claim7 := { stood := { row := decodeFieldsUptoRow, standIns := [], harness := (true, "7849b47f98f0832acb1a4035c472c4c9086a66ce973dde5adbca576edec10596"), looks := false }, kinds := [], alts := [], laidByText := true, laidKinds := [.data], laidTests := true, laidLooks := .later }
def DecodeFieldsUptoCardSaid : Prop := Claim7.holds Tryd.pinned (.plain (OpenSpec.upto decodeFieldsSpec)) decodeFieldsUptoCard

/-- THE SECOND FORM's CARD OF 'suzerainlaw04.DecodeRegisters'. -/
def decodeRegistersUptoCard : Claim7 := { stood := { row := decodeRegistersUptoRow, standIns := [], harness := (true, "7849b47f98f0832acb1a4035c472c4c9086a66ce973dde5adbca576edec10596"), looks := false }, kinds := [], alts := [], laidByText := true, laidKinds := [.data], laidTests := true, laidLooks := .later }
def DecodeRegistersUptoCardSaid : Prop := Claim7.holds Tryd.pinned (.plain (OpenSpec.upto decodeRegistersSpec)) decodeRegistersUptoCard

/-- THE SECOND FORM's CARD OF 'suzerainlaw04.DecodeKinds'. -/
def decodeKindsUptoCard : Claim7 := { stood := { row := decodeKindsUptoRow, standIns := [], harness := (true, "7849b47f98f0832acb1a4035c472c4c9086a66ce973dde5adbca576edec10596"), looks := false }, kinds := [], alts := [], laidByText := true, laidKinds := [.data], laidTests := true, laidLooks := .later }
def DecodeKindsUptoCardSaid : Prop := Claim7.holds Tryd.pinned (.plain (OpenSpec.upto decodeKindsSpec)) decodeKindsUptoCard
end Rows
end Go.Proofs.YtdcihcmhmgeheaaDoor
