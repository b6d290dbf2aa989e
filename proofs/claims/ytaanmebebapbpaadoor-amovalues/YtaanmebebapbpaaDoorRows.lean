/-
  NARROWER THAN 'FOR EVERY INPUT', by the rows' own cells (each row's printed sentence says how): AmoAll: laid · AmoPlays: laid · AmoValues: laid · AmoOne: laid · AmoSwaps: laid · AmoStores: laid.
  DERIVED. THE GIVEN ROWS OF THIS SEAT. 6 by the template 'for every input the law returns true; each argument reads behind the call as it read before'; 0 by the template 'total and deterministic' (their statements: YtaanmebebapbpaaDoorTotals.lean).
  GIVEN WITH THE SEED: the statements are not yours to turn. If you find one false, say at which input.
  Laid BY PROGRAM, IN A SANDBOX (cutbox-rows.mjs): the forced cells as the released guide's own fill.sh prints them over the translation 52e7cb398cc2a726… (all of the seat's roots in one cut). By AI agents, Wed Nov 11 2026. No macro, syntax, notation, axiom, sorry.
-/
import Derived.Test.YtaanmebebapbpaaDoorChecked
import GoSem.Claim
import GoSem.ClaimJoined
import GoSem.ClaimMapViews
import Derived.JoinedTies
import Derived.KernelRfl
namespace Go.Proofs.YtaanmebebapbpaaDoor
/- THE CELL 'sum', in the pinned program and in every row, IS THE sha256 OF THE DUMP (.gsa) THAT YtaanmebebapbpaaDoorProg.lean LOADS. Nothing in Lean hashes anything: it is a label: what it is worth is what the hold of that sum in a sandbox is worth. -/
noncomputable def Tryd.pinned : Pinned := { name := "ytaanmebebapbpaadoor", sum := "52e7cb398cc2a72623d090ed9b6981424bd0cbfde0de2fbc7d7691a1378aa90f", checked := Tryd.checked }
namespace Rows
def none {H : Type} : Left H := { results := [], args := [] }

/- WHAT THE LISTED PACKAGE-LEVEL VARIABLES READ AS WHEN THE CALL BEGINS. Each datum BY PROGRAM (the guide's laid-datum.mjs) off the statement by which the dump's own 'gosem.cut.vars' lays the variable. In a bare row this is a premise. The card (YtaanmebebapbpaaDoorCards.lean) ties it to the program's text. -/
def laid_suzerain_decode_lastOf {H : Type} : DataW H := .agg [.lit (.int .i64 0), .lit (.int .i64 4), .lit (.int .i64 10), .lit (.int .i64 17), .lit (.int .i64 21), .lit (.int .i64 30), .lit (.int .i64 40), .lit (.int .i64 44), .lit (.int .i64 49), .lit (.int .i64 57), .lit (.int .i64 62), .lit (.int .i64 69), .lit (.int .i64 75), .lit (.int .i64 86), .lit (.int .i64 97)]

/-- 'suzerainlaw08.AmoAll': WHATEVER THE INPUT: true; the input reads as it did. -/
def amoAllSpec : ChangeSpec := { name := "amoAll", fn := fun _ => fun
  | [d1, d2, d3] => { results := [.lit (.bool true)], args := [d1, d2, d3] }
  | _ => none }
def amoAllRow : OpenClaim := { program := "ytaanmebebapbpaadoor", sum := "52e7cb398cc2a72623d090ed9b6981424bd0cbfde0de2fbc7d7691a1378aa90f", func := "suzerain/suzerainlaw08.AmoAll", spec := "amoAll", unfollowed := true, recurses := true, named := ["suzerain/decode.lastOf"], apart := false, laid := [("suzerain/decode.lastOf", laid_suzerain_decode_lastOf)] }
def AmoAllSaid : Prop := amoAllRow.holds Tryd.pinned (OpenSpec.ofChange amoAllSpec)

/-- ITS FALSE NEIGHBOUR: 'it returns false'. Refute it at one input. -/
def amoAllWrong : ChangeSpec := { name := "amoAll", fn := fun _ => fun
  | [d1, d2, d3] => { results := [.lit (.bool false)], args := [d1, d2, d3] }
  | _ => none }
def AmoAllWrongFalsely : Prop := amoAllRow.holds Tryd.pinned (OpenSpec.ofChange amoAllWrong)

/-- 'suzerainlaw08.AmoPlays': WHATEVER THE INPUT: true; the input reads as it did. -/
def amoPlaysSpec : ChangeSpec := { name := "amoPlays", fn := fun _ => fun
  | [d] => { results := [.lit (.bool true)], args := [d] }
  | _ => none }
def amoPlaysRow : OpenClaim := { program := "ytaanmebebapbpaadoor", sum := "52e7cb398cc2a72623d090ed9b6981424bd0cbfde0de2fbc7d7691a1378aa90f", func := "suzerain/suzerainlaw08.AmoPlays", spec := "amoPlays", named := ["suzerain/decode.lastOf"], apart := false, laid := [("suzerain/decode.lastOf", laid_suzerain_decode_lastOf)] }
def AmoPlaysSaid : Prop := amoPlaysRow.holds Tryd.pinned (OpenSpec.ofChange amoPlaysSpec)

/-- ITS FALSE NEIGHBOUR: 'it returns false'. Refute it at one input. -/
def amoPlaysWrong : ChangeSpec := { name := "amoPlays", fn := fun _ => fun
  | [d] => { results := [.lit (.bool false)], args := [d] }
  | _ => none }
def AmoPlaysWrongFalsely : Prop := amoPlaysRow.holds Tryd.pinned (OpenSpec.ofChange amoPlaysWrong)

/-- 'suzerainlaw08.AmoValues': WHATEVER THE INPUT: true; the input reads as it did. -/
def amoValuesSpec : ChangeSpec := { name := "amoValues", fn := fun _ => fun
  | [d1, d2, d3] => { results := [.lit (.bool true)], args := [d1, d2, d3] }
  | _ => none }
def amoValuesRow : OpenClaim := { program := "ytaanmebebapbpaadoor", sum := "52e7cb398cc2a72623d090ed9b6981424bd0cbfde0de2fbc7d7691a1378aa90f", func := "suzerain/suzerainlaw08.AmoValues", spec := "amoValues", unfollowed := true, recurses := true, named := ["suzerain/decode.lastOf"], apart := false, laid := [("suzerain/decode.lastOf", laid_suzerain_decode_lastOf)] }
def AmoValuesSaid : Prop := amoValuesRow.holds Tryd.pinned (OpenSpec.ofChange amoValuesSpec)

/-- ITS FALSE NEIGHBOUR: 'it returns false'. Refute it at one input. -/
def amoValuesWrong : ChangeSpec := { name := "amoValues", fn := fun _ => fun
  | [d1, d2, d3] => { results := [.lit (.bool false)], args := [d1, d2, d3] }
  | _ => none }
def AmoValuesWrongFalsely : Prop := amoValuesRow.holds Tryd.pinned (OpenSpec.ofChange amoValuesWrong)

/-- 'suzerainlaw08.AmoOne': WHATEVER THE INPUT: true; the input reads as it did. -/
def amoOneSpec : ChangeSpec := { name := "amoOne", fn := fun _ => fun
  | [d1, d2, d3] => { results := [.lit (.bool true)], args := [d1, d2, d3] }
  | _ => none }
def amoOneRow : OpenClaim := { program := "ytaanmebebapbpaadoor", sum := "52e7cb398cc2a72623d090ed9b6981424bd0cbfde0de2fbc7d7691a1378aa90f", func := "suzerain/suzerainlaw08.AmoOne", spec := "amoOne", named := ["suzerain/decode.lastOf"], apart := false, laid := [("suzerain/decode.lastOf", laid_suzerain_decode_lastOf)] }
def AmoOneSaid : Prop := amoOneRow.holds Tryd.pinned (OpenSpec.ofChange amoOneSpec)

/-- ITS FALSE NEIGHBOUR: 'it returns false'. Refute it at one input. -/
def amoOneWrong : ChangeSpec := { name := "amoOne", fn := fun _ => fun
  | [d1, d2, d3] => { results := [.lit (.bool false)], args := [d1, d2, d3] }
  | _ => none }
def AmoOneWrongFalsely : Prop := amoOneRow.holds Tryd.pinned (OpenSpec.ofChange amoOneWrong)

/-- 'suzerainlaw08.AmoSwaps': WHATEVER THE INPUT: true; the input reads as it did. -/
def amoSwapsSpec : ChangeSpec := { name := "amoSwaps", fn := fun _ => fun
  | [d1, d2] => { results := [.lit (.bool true)], args := [d1, d2] }
  | _ => none }
def amoSwapsRow : OpenClaim := { program := "ytaanmebebapbpaadoor", sum := "52e7cb398cc2a72623d090ed9b6981424bd0cbfde0de2fbc7d7691a1378aa90f", func := "suzerain/suzerainlaw08.AmoSwaps", spec := "amoSwaps", unfollowed := true, recurses := true, named := ["suzerain/decode.lastOf"], apart := false, laid := [("suzerain/decode.lastOf", laid_suzerain_decode_lastOf)] }
def AmoSwapsSaid : Prop := amoSwapsRow.holds Tryd.pinned (OpenSpec.ofChange amoSwapsSpec)

/-- ITS FALSE NEIGHBOUR: 'it returns false'. Refute it at one input. -/
def amoSwapsWrong : ChangeSpec := { name := "amoSwaps", fn := fun _ => fun
  | [d1, d2] => { results := [.lit (.bool false)], args := [d1, d2] }
  | _ => none }
def AmoSwapsWrongFalsely : Prop := amoSwapsRow.holds Tryd.pinned (OpenSpec.ofChange amoSwapsWrong)

/-- 'suzerainlaw08.AmoStores': WHATEVER THE INPUT: true; the input reads as it did. -/
def amoStoresSpec : ChangeSpec := { name := "amoStores", fn := fun _ => fun
  | [d1, d2, d3] => { results := [.lit (.bool true)], args := [d1, d2, d3] }
  | _ => none }
def amoStoresRow : OpenClaim := { program := "ytaanmebebapbpaadoor", sum := "52e7cb398cc2a72623d090ed9b6981424bd0cbfde0de2fbc7d7691a1378aa90f", func := "suzerain/suzerainlaw08.AmoStores", spec := "amoStores", named := ["suzerain/decode.lastOf"], apart := false, laid := [("suzerain/decode.lastOf", laid_suzerain_decode_lastOf)] }
def AmoStoresSaid : Prop := amoStoresRow.holds Tryd.pinned (OpenSpec.ofChange amoStoresSpec)

/-- ITS FALSE NEIGHBOUR: 'it returns false'. Refute it at one input. -/
def amoStoresWrong : ChangeSpec := { name := "amoStores", fn := fun _ => fun
  | [d1, d2, d3] => { results := [.lit (.bool false)], args := [d1, d2, d3] }
  | _ => none }
def AmoStoresWrongFalsely : Prop := amoStoresRow.holds Tryd.pinned (OpenSpec.ofChange amoStoresWrong)

/- THE SECOND FORM. 'bulk': how many values and letters a reading holds, each counted each time it is reached (what is shared counts as often as it is met; a slice's spare places count too). A statement '..UptoSaid' is the law's where the arguments, and the package variables that the reading takes, are together of bulk at most 1048576: NARROWER than '..Said'. Prove '..Said' where nothing that the law and all that it calls make is longer than what came in: it says more and counts as full. Else prove '..UptoSaid'. A law counts once. -/
mutual
def uptoBulk {H : Type} : DataW H → Nat
  | .lit (.string bytes) => bytes.length + 1
  | .lit _ => 1
  | .nil => 1
  | .ptr d => uptoBulk d + 1
  | .slice elems spare => uptoBulkAll elems + uptoBulkAll spare + 1
  | .agg parts => uptoBulkAll parts + 1
  | .iface _ d => uptoBulk d + 1
  | .map entries => uptoBulkEntries entries + 1
  | .held _ => 1
def uptoBulkAll {H : Type} : List (DataW H) → Nat
  | [] => 0
  | d :: r => uptoBulk d + uptoBulkAll r
def uptoBulkEntries {H : Type} : List (Lit × DataW H) → Nat
  | [] => 0
  | x :: r => uptoBulkEntry x + uptoBulkEntries r
def uptoBulkEntry {H : Type} : Lit × DataW H → Nat
  | (.string bytes, d) => bytes.length + uptoBulk d + 1
  | (_, d) => uptoBulk d + 1
 end
def uptoSmall : (H : Type) → List (DataW H) → Bool := fun _ ds => decide (uptoBulkAll ds ≤ 1048576)
def OpenSpec.upto (s : _root_.Go.ChangeSpec) : _root_.Go.OpenSpec := { _root_.Go.OpenSpec.ofChange s with cond := some uptoSmall }

/-- 'suzerainlaw08.AmoAll', WHERE WHAT IT READS IS OF BULK AT MOST 1048576: true; the input reads as it did. -/
def amoAllUptoRow : OpenClaim := { program := "ytaanmebebapbpaadoor", sum := "52e7cb398cc2a72623d090ed9b6981424bd0cbfde0de2fbc7d7691a1378aa90f", func := "suzerain/suzerainlaw08.AmoAll", spec := "amoAll", unfollowed := true, recurses := true, named := ["suzerain/decode.lastOf"], apart := false, laid := [("suzerain/decode.lastOf", laid_suzerain_decode_lastOf)], narrowed := true }
def AmoAllUptoSaid : Prop := amoAllUptoRow.holds Tryd.pinned (OpenSpec.upto amoAllSpec)

/-- 'suzerainlaw08.AmoPlays', WHERE WHAT IT READS IS OF BULK AT MOST 1048576: true; the input reads as it did. -/
def amoPlaysUptoRow : OpenClaim := { program := "ytaanmebebapbpaadoor", sum := "52e7cb398cc2a72623d090ed9b6981424bd0cbfde0de2fbc7d7691a1378aa90f", func := "suzerain/suzerainlaw08.AmoPlays", spec := "amoPlays", named := ["suzerain/decode.lastOf"], apart := false, laid := [("suzerain/decode.lastOf", laid_suzerain_decode_lastOf)], narrowed := true }
def AmoPlaysUptoSaid : Prop := amoPlaysUptoRow.holds Tryd.pinned (OpenSpec.upto amoPlaysSpec)

/-- 'suzerainlaw08.AmoValues', WHERE WHAT IT READS IS OF BULK AT MOST 1048576: true; the input reads as it did. -/
def amoValuesUptoRow : OpenClaim := { program := "ytaanmebebapbpaadoor", sum := "52e7cb398cc2a72623d090ed9b6981424bd0cbfde0de2fbc7d7691a1378aa90f", func := "suzerain/suzerainlaw08.AmoValues", spec := "amoValues", unfollowed := true, recurses := true, named := ["suzerain/decode.lastOf"], apart := false, laid := [("suzerain/decode.lastOf", laid_suzerain_decode_lastOf)], narrowed := true }
def AmoValuesUptoSaid : Prop := amoValuesUptoRow.holds Tryd.pinned (OpenSpec.upto amoValuesSpec)

/-- 'suzerainlaw08.AmoOne', WHERE WHAT IT READS IS OF BULK AT MOST 1048576: true; the input reads as it did. -/
def amoOneUptoRow : OpenClaim := { program := "ytaanmebebapbpaadoor", sum := "52e7cb398cc2a72623d090ed9b6981424bd0cbfde0de2fbc7d7691a1378aa90f", func := "suzerain/suzerainlaw08.AmoOne", spec := "amoOne", named := ["suzerain/decode.lastOf"], apart := false, laid := [("suzerain/decode.lastOf", laid_suzerain_decode_lastOf)], narrowed := true }
def AmoOneUptoSaid : Prop := amoOneUptoRow.holds Tryd.pinned (OpenSpec.upto amoOneSpec)

/-- 'suzerainlaw08.AmoSwaps', WHERE WHAT IT READS IS OF BULK AT MOST 1048576: true; the input reads as it did. -/
def amoSwapsUptoRow : OpenClaim := { program := "ytaanmebebapbpaadoor", sum := "52e7cb398cc2a72623d090ed9b6981424bd0cbfde0de2fbc7d7691a1378aa90f", func := "suzerain/suzerainlaw08.AmoSwaps", spec := "amoSwaps", unfollowed := true, recurses := true, named := ["suzerain/decode.lastOf"], apart := false, laid := [("suzerain/decode.lastOf", laid_suzerain_decode_lastOf)], narrowed := true }
def AmoSwapsUptoSaid : Prop := amoSwapsUptoRow.holds Tryd.pinned (OpenSpec.upto amoSwapsSpec)

/-- 'suzerainlaw08.AmoStores', WHERE WHAT IT READS IS OF BULK AT MOST 1048576: true; the input reads as it did. -/
def amoStoresUptoRow : OpenClaim := { program := "ytaanmebebapbpaadoor", sum := "52e7cb398cc2a72623d090ed9b6981424bd0cbfde0de2fbc7d7691a1378aa90f", func := "suzerain/suzerainlaw08.AmoStores", spec := "amoStores", named := ["suzerain/decode.lastOf"], apart := false, laid := [("suzerain/decode.lastOf", laid_suzerain_decode_lastOf)], narrowed := true }
def AmoStoresUptoSaid : Prop := amoStoresUptoRow.holds Tryd.pinned (OpenSpec.upto amoStoresSpec)

end Rows
end Go.Proofs.YtaanmebebapbpaaDoor
