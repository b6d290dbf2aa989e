/-
  NARROWER THAN 'FOR EVERY INPUT', by the rows' own cells (each row's printed sentence says how): DecodeAll: laid · DecodeFields: laid · DecodeRegisters: laid · DecodeKinds: laid.
  DERIVED. THE GIVEN ROWS OF THIS SEAT. 4 by the template 'for every input the law returns true; each argument reads behind the call as it read before'; 0 by the template 'total and deterministic' (their statements: YtdcihcmhmgeheaaDoorTotals.lean).
  GIVEN WITH THE SEED: the statements are not yours to turn. If you find one false, say at which input.
  Laid BY PROGRAM, IN A SANDBOX (cutbox-rows.mjs): the forced cells as the released guide's own fill.sh prints them over the translation 129f467c3bb04ca0… (all of the seat's roots in one cut). By AI agents, Wed Nov 11 2026. No macro, syntax, notation, axiom, sorry.
-/
import Derived.Test.YtdcihcmhmgeheaaDoorChecked
import GoSem.Claim
import GoSem.ClaimJoined
import GoSem.ClaimMapViews
import Derived.JoinedTies
import Derived.KernelRfl
namespace Go.Proofs.YtdcihcmhmgeheaaDoor
/- THE CELL 'sum', in the pinned program and in every row, IS THE sha256 OF THE DUMP (.gsa) THAT YtdcihcmhmgeheaaDoorProg.lean LOADS. Nothing in Lean hashes anything: it is a label: what it is worth is what the hold of that sum in a sandbox is worth. -/
noncomputable def Tryd.pinned : Pinned := { name := "ytdcihcmhmgeheaadoor", sum := "129f467c3bb04ca095bbbb3bd9fb8ccc354761a9d61d886e5cac0a4c62d571bf", checked := Tryd.checked }
namespace Rows
def none {H : Type} : Left H := { results := [], args := [] }

/- WHAT THE LISTED PACKAGE-LEVEL VARIABLES READ AS WHEN THE CALL BEGINS. Each datum BY PROGRAM (the guide's laid-datum.mjs) off the statement by which the dump's own 'gosem.cut.vars' lays the variable. In a bare row this is a premise. The card (YtdcihcmhmgeheaaDoorCards.lean) ties it to the program's text. -/
def laid_suzerain_decode_lastOf {H : Type} : DataW H := .agg [.lit (.int .i64 0), .lit (.int .i64 4), .lit (.int .i64 10), .lit (.int .i64 17), .lit (.int .i64 21), .lit (.int .i64 30), .lit (.int .i64 40), .lit (.int .i64 44), .lit (.int .i64 49), .lit (.int .i64 57), .lit (.int .i64 62), .lit (.int .i64 69), .lit (.int .i64 75), .lit (.int .i64 86), .lit (.int .i64 97)]

/-- 'suzerainlaw04.DecodeAll': WHATEVER THE INPUT: true; the input reads as it did. -/
def decodeAllSpec : ChangeSpec := { name := "decodeAll", fn := fun _ => fun
  | [d1, d2] => { results := [.lit (.bool true)], args := [d1, d2] }
  | _ => none }
def decodeAllRow : OpenClaim := { program := "ytdcihcmhmgeheaadoor", sum := "129f467c3bb04ca095bbbb3bd9fb8ccc354761a9d61d886e5cac0a4c62d571bf", func := "suzerain/suzerainlaw04.DecodeAll", spec := "decodeAll", unfollowed := true, recurses := true, named := ["suzerain/decode.lastOf"], apart := false, laid := [("suzerain/decode.lastOf", laid_suzerain_decode_lastOf)] }
def DecodeAllSaid : Prop := decodeAllRow.holds Tryd.pinned (OpenSpec.ofChange decodeAllSpec)

/-- ITS FALSE NEIGHBOUR: 'it returns false'. Refute it at one input. -/
def decodeAllWrong : ChangeSpec := { name := "decodeAll", fn := fun _ => fun
  | [d1, d2] => { results := [.lit (.bool false)], args := [d1, d2] }
  | _ => none }
def DecodeAllWrongFalsely : Prop := decodeAllRow.holds Tryd.pinned (OpenSpec.ofChange decodeAllWrong)

/-- 'suzerainlaw04.DecodeFields': WHATEVER THE INPUT: true; the input reads as it did. -/
def decodeFieldsSpec : ChangeSpec := { name := "decodeFields", fn := fun _ => fun
  | [d] => { results := [.lit (.bool true)], args := [d] }
  | _ => none }
def decodeFieldsRow : OpenClaim := { program := "ytdcihcmhmgeheaadoor", sum := "129f467c3bb04ca095bbbb3bd9fb8ccc354761a9d61d886e5cac0a4c62d571bf", func := "suzerain/suzerainlaw04.DecodeFields", spec := "decodeFields", unfollowed := true, recurses := true, named := ["suzerain/decode.lastOf"], apart := false, laid := [("suzerain/decode.lastOf", laid_suzerain_decode_lastOf)] }
def DecodeFieldsSaid : Prop := decodeFieldsRow.holds Tryd.pinned (OpenSpec.ofChange decodeFieldsSpec)

/-- ITS FALSE NEIGHBOUR: 'it returns false'. Refute it at one input. -/
def decodeFieldsWrong : ChangeSpec := { name := "decodeFields", fn := fun _ => fun
  | [d] => { results := [.lit (.bool false)], args := [d] }
  | _ => none }
def DecodeFieldsWrongFalsely : Prop := decodeFieldsRow.holds Tryd.pinned (OpenSpec.ofChange decodeFieldsWrong)

/-- 'suzerainlaw04.DecodeRegisters': WHATEVER THE INPUT: true; the input reads as it did. -/
def decodeRegistersSpec : ChangeSpec := { name := "decodeRegisters", fn := fun _ => fun
  | [d1, d2] => { results := [.lit (.bool true)], args := [d1, d2] }
  | _ => none }
def decodeRegistersRow : OpenClaim := { program := "ytdcihcmhmgeheaadoor", sum := "129f467c3bb04ca095bbbb3bd9fb8ccc354761a9d61d886e5cac0a4c62d571bf", func := "suzerain/suzerainlaw04.DecodeRegisters", spec := "decodeRegisters", unfollowed := true, recurses := true, named := ["suzerain/decode.lastOf"], apart := false, laid := [("suzerain/decode.lastOf", laid_suzerain_decode_lastOf)] }
def DecodeRegistersSaid : Prop := decodeRegistersRow.holds Tryd.pinned (OpenSpec.ofChange decodeRegistersSpec)

/-- ITS FALSE NEIGHBOUR: 'it returns false'. Refute it at one input. -/
def decodeRegistersWrong : ChangeSpec := { name := "decodeRegisters", fn := fun _ => fun
  | [d1, d2] => { results := [.lit (.bool false)], args := [d1, d2] }
  | _ => none }
def DecodeRegistersWrongFalsely : Prop := decodeRegistersRow.holds Tryd.pinned (OpenSpec.ofChange decodeRegistersWrong)

/-- 'suzerainlaw04.DecodeKinds': WHATEVER THE INPUT: true; the input reads as it did. -/
def decodeKindsSpec : ChangeSpec := { name := "decodeKinds", fn := fun _ => fun
  | [d] => { results := [.lit (.bool true)], args := [d] }
  | _ => none }
def decodeKindsRow : OpenClaim := { program := "ytdcihcmhmgeheaadoor", sum := "129f467c3bb04ca095bbbb3bd9fb8ccc354761a9d61d886e5cac0a4c62d571bf", func := "suzerain/suzerainlaw04.DecodeKinds", spec := "decodeKinds", unfollowed := true, recurses := true, named := ["suzerain/decode.lastOf"], apart := false, laid := [("suzerain/decode.lastOf", laid_suzerain_decode_lastOf)] }
def DecodeKindsSaid : Prop := decodeKindsRow.holds Tryd.pinned (OpenSpec.ofChange decodeKindsSpec)

/-- ITS FALSE NEIGHBOUR: 'it returns false'. Refute it at one input. -/
def decodeKindsWrong : ChangeSpec := { name := "decodeKinds", fn := fun _ => fun
  | [d] => { results := [.lit (.bool false)], args := [d] }
  | _ => none }
def DecodeKindsWrongFalsely : Prop := decodeKindsRow.holds Tryd.pinned (OpenSpec.ofChange decodeKindsWrong)

/- THE SECOND FORM. 'bulk': how many values and letters a reading holds, each counted each time it is reached (what is shared counts as often as it is met; a slice's spare places count too). A statement '..UptoSaid' is the law's where the arguments, and the package variables that the reading takes, are together of bulk at most 1048576: NARROWER than '..Said'. Prove '..Said' where nothing that the law and all that it calls make is longer than what came in: it says more and counts as full. Else prove '..UptoSaid'. A law counts once. -/
mutual
def uptoBulk {H : Type} : DataW H → Nat
  | .lit (.string bytes) => bytes.length + 1
  | .lit _ => 1
  | .nil => 1
  | .ptr d => uptoBulk d + 1
  | .slice elems spare => uptoBulkAll elems + uptoBulkAll spare + 1
  | .agg parts => uptoBulkAll parts + 1
  | .iface _ d => uptoBulk d + 1
  | .map entries => uptoBulkEntries entries + 1
  | .held _ => 1
def uptoBulkAll {H : Type} : List (DataW H) → Nat
  | [] => 0
  | d :: r => uptoBulk d + uptoBulkAll r
def uptoBulkEntries {H : Type} : List (Lit × DataW H) → Nat
  | [] => 0
  | x :: r => uptoBulkEntry x + uptoBulkEntries r
def uptoBulkEntry {H : Type} : Lit × DataW H → Nat
  | (.string bytes, d) => bytes.length + uptoBulk d + 1
  | (_, d) => uptoBulk d + 1
 end
def uptoSmall : (H : Type) → List (DataW H) → Bool := fun _ ds => decide (uptoBulkAll ds ≤ 1048576)
def OpenSpec.upto (s : _root_.Go.ChangeSpec) : _root_.Go.OpenSpec := { _root_.Go.OpenSpec.ofChange s with cond := some uptoSmall }

/-- 'suzerainlaw04.DecodeAll', WHERE WHAT IT READS IS OF BULK AT MOST 1048576: true; the input reads as it did. -/
def decodeAllUptoRow : OpenClaim := { program := "ytdcihcmhmgeheaadoor", sum := "129f467c3bb04ca095bbbb3bd9fb8ccc354761a9d61d886e5cac0a4c62d571bf", func := "suzerain/suzerainlaw04.DecodeAll", spec := "decodeAll", unfollowed := true, recurses := true, named := ["suzerain/decode.lastOf"], apart := false, laid := [("suzerain/decode.lastOf", laid_suzerain_decode_lastOf)], narrowed := true }
def DecodeAllUptoSaid : Prop := decodeAllUptoRow.holds Tryd.pinned (OpenSpec.upto decodeAllSpec)

/-- 'suzerainlaw04.DecodeFields', WHERE WHAT IT READS IS OF BULK AT MOST 1048576: true; the input reads as it did. -/
def decodeFieldsUptoRow : OpenClaim := { program := "ytdcihcmhmgeheaadoor", sum := "129f467c3bb04ca095bbbb3bd9fb8ccc354761a9d61d886e5cac0a4c62d571bf", func := "suzerain/suzerainlaw04.DecodeFields", spec := "decodeFields", unfollowed := true, recurses := true, named := ["suzerain/decode.lastOf"], apart := false, laid := [("suzerain/decode.lastOf", laid_suzerain_decode_lastOf)], narrowed := true }
def DecodeFieldsUptoSaid : Prop := decodeFieldsUptoRow.holds Tryd.pinned (OpenSpec.upto decodeFieldsSpec)

/-- 'suzerainlaw04.DecodeRegisters', WHERE WHAT IT READS IS OF BULK AT MOST 1048576: true; the input reads as it did. -/
def decodeRegistersUptoRow : OpenClaim := { program := "ytdcihcmhmgeheaadoor", sum := "129f467c3bb04ca095bbbb3bd9fb8ccc354761a9d61d886e5cac0a4c62d571bf", func := "suzerain/suzerainlaw04.DecodeRegisters", spec := "decodeRegisters", unfollowed := true, recurses := true, named := ["suzerain/decode.lastOf"], apart := false, laid := [("suzerain/decode.lastOf", laid_suzerain_decode_lastOf)], narrowed := true }
def DecodeRegistersUptoSaid : Prop := decodeRegistersUptoRow.holds Tryd.pinned (OpenSpec.upto decodeRegistersSpec)

/-- 'suzerainlaw04.DecodeKinds', WHERE WHAT IT READS IS OF BULK AT MOST 1048576: true; the input reads as it did. -/
def decodeKindsUptoRow : OpenClaim := { program := "ytdcihcmhmgeheaadoor", sum := "129f467c3bb04ca095bbbb3bd9fb8ccc354761a9d61d886e5cac0a4c62d571bf", func := "suzerain/suzerainlaw04.DecodeKinds", spec := "decodeKinds", unfollowed := true, recurses := true, named := ["suzerain/decode.lastOf"], apart := false, laid := [("suzerain/decode.lastOf", laid_suzerain_decode_lastOf)], narrowed := true }
def DecodeKindsUptoSaid : Prop := decodeKindsUptoRow.holds Tryd.pinned (OpenSpec.upto decodeKindsSpec)

end Rows
end Go.Proofs.YtdcihcmhmgeheaaDoor
