/-
  NARROWER THAN 'FOR EVERY INPUT', by the rows' own cells (each row's printed sentence says how): AluAll: laid · AluHalves: laid · AluBranches: laid · AluNumbers: laid · AluDivides: laid.
  DERIVED. THE GIVEN ROWS OF THIS SEAT. 5 by the template 'for every input the law returns true; each argument reads behind the call as it read before'; 0 by the template 'total and deterministic' (their statements: YtmabfocpcbaniaaDoorTotals.lean).
  GIVEN WITH THE SEED: the statements are not yours to turn. If you find one false, say at which input.
  Laid BY PROGRAM, IN A SANDBOX (cutbox-rows.mjs): the forced cells as the released guide's own fill.sh prints them over the translation 2dbffdf4a211e1a6… (all of the seat's roots in one cut). By AI agents, Wed Nov 11 2026. No macro, syntax, notation, axiom, sorry.
-/
import Derived.Test.YtmabfocpcbaniaaDoorChecked
import GoSem.Claim
import GoSem.ClaimJoined
import GoSem.ClaimMapViews
import Derived.JoinedTies
import Derived.KernelRfl
namespace Go.Proofs.YtmabfocpcbaniaaDoor
/- THE CELL 'sum', in the pinned program and in every row, IS THE sha256 OF THE DUMP (.gsa) THAT YtmabfocpcbaniaaDoorProg.lean LOADS. Nothing in Lean hashes anything: it is a label: what it is worth is what the hold of that sum in a sandbox is worth. -/
noncomputable def Tryd.pinned : Pinned := { name := "ytmabfocpcbaniaadoor", sum := "2dbffdf4a211e1a602262ca48a814000e518a8875f707e4c445e325e2c7359f0", checked := Tryd.checked }
namespace Rows
def none {H : Type} : Left H := { results := [], args := [] }

/- WHAT THE LISTED PACKAGE-LEVEL VARIABLES READ AS WHEN THE CALL BEGINS. Each datum BY PROGRAM (the guide's laid-datum.mjs) off the statement by which the dump's own 'gosem.cut.vars' lays the variable. In a bare row this is a premise. The card (YtmabfocpcbaniaaDoorCards.lean) ties it to the program's text. -/
def laid_suzerain_decode_lastOf {H : Type} : DataW H := .agg [.lit (.int .i64 0), .lit (.int .i64 4), .lit (.int .i64 10), .lit (.int .i64 17), .lit (.int .i64 21), .lit (.int .i64 30), .lit (.int .i64 40), .lit (.int .i64 44), .lit (.int .i64 49), .lit (.int .i64 57), .lit (.int .i64 62), .lit (.int .i64 69), .lit (.int .i64 75), .lit (.int .i64 86), .lit (.int .i64 97)]

/-- 'suzerainlaw07.AluAll': WHATEVER THE INPUT: true; the input reads as it did. -/
def aluAllSpec : ChangeSpec := { name := "aluAll", fn := fun _ => fun
  | [d1, d2, d3] => { results := [.lit (.bool true)], args := [d1, d2, d3] }
  | _ => none }
def aluAllRow : OpenClaim := { program := "ytmabfocpcbaniaadoor", sum := "2dbffdf4a211e1a602262ca48a814000e518a8875f707e4c445e325e2c7359f0", func := "suzerain/suzerainlaw07.AluAll", spec := "aluAll", unfollowed := true, recurses := true, named := ["suzerain/decode.lastOf"], apart := false, laid := [("suzerain/decode.lastOf", laid_suzerain_decode_lastOf)] }
def AluAllSaid : Prop := aluAllRow.holds Tryd.pinned (OpenSpec.ofChange aluAllSpec)

/-- ITS FALSE NEIGHBOUR: 'it returns false'. Refute it at one input. -/
def aluAllWrong : ChangeSpec := { name := "aluAll", fn := fun _ => fun
  | [d1, d2, d3] => { results := [.lit (.bool false)], args := [d1, d2, d3] }
  | _ => none }
def AluAllWrongFalsely : Prop := aluAllRow.holds Tryd.pinned (OpenSpec.ofChange aluAllWrong)

/-- 'suzerainlaw07.AluHalves': WHATEVER THE INPUT: true; the input reads as it did. -/
def aluHalvesSpec : ChangeSpec := { name := "aluHalves", fn := fun _ => fun
  | [d1, d2, d3] => { results := [.lit (.bool true)], args := [d1, d2, d3] }
  | _ => none }
def aluHalvesRow : OpenClaim := { program := "ytmabfocpcbaniaadoor", sum := "2dbffdf4a211e1a602262ca48a814000e518a8875f707e4c445e325e2c7359f0", func := "suzerain/suzerainlaw07.AluHalves", spec := "aluHalves", unfollowed := true, recurses := true, named := ["suzerain/decode.lastOf"], apart := false, laid := [("suzerain/decode.lastOf", laid_suzerain_decode_lastOf)] }
def AluHalvesSaid : Prop := aluHalvesRow.holds Tryd.pinned (OpenSpec.ofChange aluHalvesSpec)

/-- ITS FALSE NEIGHBOUR: 'it returns false'. Refute it at one input. -/
def aluHalvesWrong : ChangeSpec := { name := "aluHalves", fn := fun _ => fun
  | [d1, d2, d3] => { results := [.lit (.bool false)], args := [d1, d2, d3] }
  | _ => none }
def AluHalvesWrongFalsely : Prop := aluHalvesRow.holds Tryd.pinned (OpenSpec.ofChange aluHalvesWrong)

/-- 'suzerainlaw07.AluBranches': WHATEVER THE INPUT: true; the input reads as it did. -/
def aluBranchesSpec : ChangeSpec := { name := "aluBranches", fn := fun _ => fun
  | [d1, d2] => { results := [.lit (.bool true)], args := [d1, d2] }
  | _ => none }
def aluBranchesRow : OpenClaim := { program := "ytmabfocpcbaniaadoor", sum := "2dbffdf4a211e1a602262ca48a814000e518a8875f707e4c445e325e2c7359f0", func := "suzerain/suzerainlaw07.AluBranches", spec := "aluBranches", unfollowed := true, recurses := true, named := ["suzerain/decode.lastOf"], apart := false, laid := [("suzerain/decode.lastOf", laid_suzerain_decode_lastOf)] }
def AluBranchesSaid : Prop := aluBranchesRow.holds Tryd.pinned (OpenSpec.ofChange aluBranchesSpec)

/-- ITS FALSE NEIGHBOUR: 'it returns false'. Refute it at one input. -/
def aluBranchesWrong : ChangeSpec := { name := "aluBranches", fn := fun _ => fun
  | [d1, d2] => { results := [.lit (.bool false)], args := [d1, d2] }
  | _ => none }
def AluBranchesWrongFalsely : Prop := aluBranchesRow.holds Tryd.pinned (OpenSpec.ofChange aluBranchesWrong)

/-- 'suzerainlaw07.AluNumbers': WHATEVER THE INPUT: true; the input reads as it did. -/
def aluNumbersSpec : ChangeSpec := { name := "aluNumbers", fn := fun _ => fun
  | [d1, d2] => { results := [.lit (.bool true)], args := [d1, d2] }
  | _ => none }
def aluNumbersRow : OpenClaim := { program := "ytmabfocpcbaniaadoor", sum := "2dbffdf4a211e1a602262ca48a814000e518a8875f707e4c445e325e2c7359f0", func := "suzerain/suzerainlaw07.AluNumbers", spec := "aluNumbers", unfollowed := true, recurses := true, named := ["suzerain/decode.lastOf"], apart := false, laid := [("suzerain/decode.lastOf", laid_suzerain_decode_lastOf)] }
def AluNumbersSaid : Prop := aluNumbersRow.holds Tryd.pinned (OpenSpec.ofChange aluNumbersSpec)

/-- ITS FALSE NEIGHBOUR: 'it returns false'. Refute it at one input. -/
def aluNumbersWrong : ChangeSpec := { name := "aluNumbers", fn := fun _ => fun
  | [d1, d2] => { results := [.lit (.bool false)], args := [d1, d2] }
  | _ => none }
def AluNumbersWrongFalsely : Prop := aluNumbersRow.holds Tryd.pinned (OpenSpec.ofChange aluNumbersWrong)

/-- 'suzerainlaw07.AluDivides': WHATEVER THE INPUT: true; the input reads as it did. -/
def aluDividesSpec : ChangeSpec := { name := "aluDivides", fn := fun _ => fun
  | [d1, d2] => { results := [.lit (.bool true)], args := [d1, d2] }
  | _ => none }
def aluDividesRow : OpenClaim := { program := "ytmabfocpcbaniaadoor", sum := "2dbffdf4a211e1a602262ca48a814000e518a8875f707e4c445e325e2c7359f0", func := "suzerain/suzerainlaw07.AluDivides", spec := "aluDivides", unfollowed := true, recurses := true, named := ["suzerain/decode.lastOf"], apart := false, laid := [("suzerain/decode.lastOf", laid_suzerain_decode_lastOf)] }
def AluDividesSaid : Prop := aluDividesRow.holds Tryd.pinned (OpenSpec.ofChange aluDividesSpec)

/-- ITS FALSE NEIGHBOUR: 'it returns false'. Refute it at one input. -/
def aluDividesWrong : ChangeSpec := { name := "aluDivides", fn := fun _ => fun
  | [d1, d2] => { results := [.lit (.bool false)], args := [d1, d2] }
  | _ => none }
def AluDividesWrongFalsely : Prop := aluDividesRow.holds Tryd.pinned (OpenSpec.ofChange aluDividesWrong)

/- THE SECOND FORM. 'bulk': how many values and letters a reading holds, each counted each time it is reached (what is shared counts as often as it is met; a slice's spare places count too). A statement '..UptoSaid' is the law's where the arguments, and the package variables that the reading takes, are together of bulk at most 1048576: NARROWER than '..Said'. Prove '..Said' where nothing that the law and all that it calls make is longer than what came in: it says more and counts as full. Else prove '..UptoSaid'. A law counts once. -/
mutual
def uptoBulk {H : Type} : DataW H → Nat
  | .lit (.string bytes) => bytes.length + 1
  | .lit _ => 1
  | .nil => 1
  | .ptr d => uptoBulk d + 1
  | .slice elems spare => uptoBulkAll elems + uptoBulkAll spare + 1
  | .agg parts => uptoBulkAll parts + 1
  | .iface _ d => uptoBulk d + 1
  | .map entries => uptoBulkEntries entries + 1
  | .held _ => 1
def uptoBulkAll {H : Type} : List (DataW H) → Nat
  | [] => 0
  | d :: r => uptoBulk d + uptoBulkAll r
def uptoBulkEntries {H : Type} : List (Lit × DataW H) → Nat
  | [] => 0
  | x :: r => uptoBulkEntry x + uptoBulkEntries r
def uptoBulkEntry {H : Type} : Lit × DataW H → Nat
  | (.string bytes, d) => bytes.length + uptoBulk d + 1
  | (_, d) => uptoBulk d + 1
 end
def uptoSmall : (H : Type) → List (DataW H) → Bool := fun _ ds => decide (uptoBulkAll ds ≤ 1048576)
def OpenSpec.upto (s : _root_.Go.ChangeSpec) : _root_.Go.OpenSpec := { _root_.Go.OpenSpec.ofChange s with cond := some uptoSmall }

/-- 'suzerainlaw07.AluAll', WHERE WHAT IT READS IS OF BULK AT MOST 1048576: true; the input reads as it did. -/
def aluAllUptoRow : OpenClaim := { program := "ytmabfocpcbaniaadoor", sum := "2dbffdf4a211e1a602262ca48a814000e518a8875f707e4c445e325e2c7359f0", func := "suzerain/suzerainlaw07.AluAll", spec := "aluAll", unfollowed := true, recurses := true, named := ["suzerain/decode.lastOf"], apart := false, laid := [("suzerain/decode.lastOf", laid_suzerain_decode_lastOf)], narrowed := true }
def AluAllUptoSaid : Prop := aluAllUptoRow.holds Tryd.pinned (OpenSpec.upto aluAllSpec)

/-- 'suzerainlaw07.AluHalves', WHERE WHAT IT READS IS OF BULK AT MOST 1048576: true; the input reads as it did. -/
def aluHalvesUptoRow : OpenClaim := { program := "ytmabfocpcbaniaadoor", sum := "2dbffdf4a211e1a602262ca48a814000e518a8875f707e4c445e325e2c7359f0", func := "suzerain/suzerainlaw07.AluHalves", spec := "aluHalves", unfollowed := true, recurses := true, named := ["suzerain/decode.lastOf"], apart := false, laid := [("suzerain/decode.lastOf", laid_suzerain_decode_lastOf)], narrowed := true }
def AluHalvesUptoSaid : Prop := aluHalvesUptoRow.holds Tryd.pinned (OpenSpec.upto aluHalvesSpec)

/-- 'suzerainlaw07.AluBranches', WHERE WHAT IT READS IS OF BULK AT MOST 1048576: true; the input reads as it did. -/
def aluBranchesUptoRow : OpenClaim := { program := "ytmabfocpcbaniaadoor", sum := "2dbffdf4a211e1a602262ca48a814000e518a8875f707e4c445e325e2c7359f0", func := "suzerain/suzerainlaw07.AluBranches", spec := "aluBranches", unfollowed := true, recurses := true, named := ["suzerain/decode.lastOf"], apart := false, laid := [("suzerain/decode.lastOf", laid_suzerain_decode_lastOf)], narrowed := true }
def AluBranchesUptoSaid : Prop := aluBranchesUptoRow.holds Tryd.pinned (OpenSpec.upto aluBranchesSpec)

/-- 'suzerainlaw07.AluNumbers', WHERE WHAT IT READS IS OF BULK AT MOST 1048576: true; the input reads as it did. -/
def aluNumbersUptoRow : OpenClaim := { program := "ytmabfocpcbaniaadoor", sum := "2dbffdf4a211e1a602262ca48a814000e518a8875f707e4c445e325e2c7359f0", func := "suzerain/suzerainlaw07.AluNumbers", spec := "aluNumbers", unfollowed := true, recurses := true, named := ["suzerain/decode.lastOf"], apart := false, laid := [("suzerain/decode.lastOf", laid_suzerain_decode_lastOf)], narrowed := true }
def AluNumbersUptoSaid : Prop := aluNumbersUptoRow.holds Tryd.pinned (OpenSpec.upto aluNumbersSpec)

/-- 'suzerainlaw07.AluDivides', WHERE WHAT IT READS IS OF BULK AT MOST 1048576: true; the input reads as it did. -/
def aluDividesUptoRow : OpenClaim := { program := "ytmabfocpcbaniaadoor", sum := "2dbffdf4a211e1a602262ca48a814000e518a8875f707e4c445e325e2c7359f0", func := "suzerain/suzerainlaw07.AluDivides", spec := "aluDivides", unfollowed := true, recurses := true, named := ["suzerain/decode.lastOf"], apart := false, laid := [("suzerain/decode.lastOf", laid_suzerain_decode_lastOf)], narrowed := true }
def AluDividesUptoSaid : Prop := aluDividesUptoRow.holds Tryd.pinned (OpenSpec.upto aluDividesSpec)

end Rows
end Go.Proofs.YtmabfocpcbaniaaDoor
