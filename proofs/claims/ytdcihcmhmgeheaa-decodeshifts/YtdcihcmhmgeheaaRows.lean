/-
  No cell of these rows narrows 'for every input' (looked for: loops, veiled, ifaces, maps, wideKeys, modest, calm, conditions, laid).
  DERIVED. THE GIVEN ROWS OF THIS SEAT. 2 by the template 'for every input the law returns true; each argument reads behind the call as it read before'; 0 by the template 'total and deterministic' (their statements: YtdcihcmhmgeheaaTotals.lean).
  GIVEN WITH THE SEED: the statements are not yours to turn. If you find one false, say at which input.
  Laid BY PROGRAM, IN A SANDBOX (cutbox-rows.mjs): the forced cells as the released guide's own fill.sh prints them over the translation 7eaa2090f9c4f373… (all of the seat's roots in one cut). By AI agents, Wed Nov 11 2026. No macro, syntax, notation, axiom, sorry.
-/
import Derived.Test.YtdcihcmhmgeheaaChecked
import GoSem.Claim
import GoSem.ClaimJoined
import GoSem.ClaimMapViews
import Derived.JoinedTies
import Derived.KernelRfl
namespace Go.Proofs.Ytdcihcmhmgeheaa
/- THE CELL 'sum', in the pinned program and in every row, IS THE sha256 OF THE DUMP (.gsa) THAT YtdcihcmhmgeheaaProg.lean LOADS. Nothing in Lean hashes anything: it is a label: what it is worth is what the hold of that sum in a sandbox is worth. -/
noncomputable def Try.pinned : Pinned := { name := "ytdcihcmhmgeheaa", sum := "7eaa2090f9c4f373a6d16fab8ac6157ef081d637fbdd518b28b00a52ef7b7e10", checked := Try.checked }
namespace Rows
def none {H : Type} : Left H := { results := [], args := [] }

/-- 'suzerainlaw04.DecodeNone': WHATEVER THE INPUT: true; the input reads as it did. -/
def decodeNoneSpec : ChangeSpec := { name := "decodeNone", fn := fun _ => fun
  | [d] => { results := [.lit (.bool true)], args := [d] }
  | _ => none }
def decodeNoneRow : OpenClaim := { program := "ytdcihcmhmgeheaa", sum := "7eaa2090f9c4f373a6d16fab8ac6157ef081d637fbdd518b28b00a52ef7b7e10", func := "suzerain/suzerainlaw04.DecodeNone", spec := "decodeNone", unfollowed := true, recurses := true, apart := false }
def DecodeNoneSaid : Prop := decodeNoneRow.holds Try.pinned (OpenSpec.ofChange decodeNoneSpec)

/-- ITS FALSE NEIGHBOUR: 'it returns false'. Refute it at one input. -/
def decodeNoneWrong : ChangeSpec := { name := "decodeNone", fn := fun _ => fun
  | [d] => { results := [.lit (.bool false)], args := [d] }
  | _ => none }
def DecodeNoneWrongFalsely : Prop := decodeNoneRow.holds Try.pinned (OpenSpec.ofChange decodeNoneWrong)

/-- 'suzerainlaw04.DecodeShifts': WHATEVER THE INPUT: true; the input reads as it did. -/
def decodeShiftsSpec : ChangeSpec := { name := "decodeShifts", fn := fun _ => fun
  | [d1, d2, d3] => { results := [.lit (.bool true)], args := [d1, d2, d3] }
  | _ => none }
def decodeShiftsRow : OpenClaim := { program := "ytdcihcmhmgeheaa", sum := "7eaa2090f9c4f373a6d16fab8ac6157ef081d637fbdd518b28b00a52ef7b7e10", func := "suzerain/suzerainlaw04.DecodeShifts", spec := "decodeShifts", unfollowed := true, recurses := true, apart := false }
def DecodeShiftsSaid : Prop := decodeShiftsRow.holds Try.pinned (OpenSpec.ofChange decodeShiftsSpec)

/-- ITS FALSE NEIGHBOUR: 'it returns false'. Refute it at one input. -/
def decodeShiftsWrong : ChangeSpec := { name := "decodeShifts", fn := fun _ => fun
  | [d1, d2, d3] => { results := [.lit (.bool false)], args := [d1, d2, d3] }
  | _ => none }
def DecodeShiftsWrongFalsely : Prop := decodeShiftsRow.holds Try.pinned (OpenSpec.ofChange decodeShiftsWrong)

/- THE SECOND FORM. 'bulk': how many values and letters a reading holds, each counted each time it is reached (what is shared counts as often as it is met; a slice's spare places count too). A statement '..UptoSaid' is the law's where the arguments, and the package variables that the reading takes, are together of bulk at most 1048576: NARROWER than '..Said'. Prove '..Said' where nothing that the law and all that it calls make is longer than what came in: it says more and counts as full. Else prove '..UptoSaid'. A law counts once. -/
mutual
def uptoBulk {H : Type} : DataW H → Nat
  | .lit (.string bytes) => bytes.length + 1
  | .lit _ => 1
  | .nil => 1
  | .ptr d => uptoBulk d + 1
  | .slice elems spare => uptoBulkAll elems + uptoBulkAll spare + 1
  | .agg parts => uptoBulkAll parts + 1
  | .iface _ d => uptoBulk d + 1
  | .map entries => uptoBulkEntries entries + 1
  | .held _ => 1
def uptoBulkAll {H : Type} : List (DataW H) → Nat
  | [] => 0
  | d :: r => uptoBulk d + uptoBulkAll r
def uptoBulkEntries {H : Type} : List (Lit × DataW H) → Nat
  | [] => 0
  | x :: r => uptoBulkEntry x + uptoBulkEntries r
def uptoBulkEntry {H : Type} : Lit × DataW H → Nat
  | (.string bytes, d) => bytes.length + uptoBulk d + 1
  | (_, d) => uptoBulk d + 1
 end
def uptoSmall : (H : Type) → List (DataW H) → Bool := fun _ ds => decide (uptoBulkAll ds ≤ 1048576)
def OpenSpec.upto (s : _root_.Go.ChangeSpec) : _root_.Go.OpenSpec := { _root_.Go.OpenSpec.ofChange s with cond := some uptoSmall }

/-- 'suzerainlaw04.DecodeNone', WHERE WHAT IT READS IS OF BULK AT MOST 1048576: true; the input reads as it did. -/
def decodeNoneUptoRow : OpenClaim := { program := "ytdcihcmhmgeheaa", sum := "7eaa2090f9c4f373a6d16fab8ac6157ef081d637fbdd518b28b00a52ef7b7e10", func := "suzerain/suzerainlaw04.DecodeNone", spec := "decodeNone", unfollowed := true, recurses := true, apart := false, narrowed := true }
def DecodeNoneUptoSaid : Prop := decodeNoneUptoRow.holds Try.pinned (OpenSpec.upto decodeNoneSpec)

/-- 'suzerainlaw04.DecodeShifts', WHERE WHAT IT READS IS OF BULK AT MOST 1048576: true; the input reads as it did. -/
def decodeShiftsUptoRow : OpenClaim := { program := "ytdcihcmhmgeheaa", sum := "7eaa2090f9c4f373a6d16fab8ac6157ef081d637fbdd518b28b00a52ef7b7e10", func := "suzerain/suzerainlaw04.DecodeShifts", spec := "decodeShifts", unfollowed := true, recurses := true, apart := false, narrowed := true }
def DecodeShiftsUptoSaid : Prop := decodeShiftsUptoRow.holds Try.pinned (OpenSpec.upto decodeShiftsSpec)

end Rows
end Go.Proofs.Ytdcihcmhmgeheaa
