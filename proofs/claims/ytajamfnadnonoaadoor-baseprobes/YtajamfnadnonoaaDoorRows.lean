/-
  NARROWER THAN 'FOR EVERY INPUT', by the rows' own cells (each row's printed sentence says how): BaseAll: laid · BaseProbes: laid.
  DERIVED. THE GIVEN ROWS OF THIS SEAT. 2 by the template 'for every input the law returns true; each argument reads behind the call as it read before'; 0 by the template 'total and deterministic' (their statements: YtajamfnadnonoaaDoorTotals.lean).
  GIVEN WITH THE SEED: the statements are not yours to turn. If you find one false, say at which input.
  Laid BY PROGRAM, IN A SANDBOX (cutbox-rows.mjs): the forced cells as the released guide's own fill.sh prints them over the translation c057778de17bb38d… (all of the seat's roots in one cut). By AI agents, Wed Nov 11 2026. No macro, syntax, notation, axiom, sorry.
-/
import Derived.Test.YtajamfnadnonoaaDoorChecked
import GoSem.Claim
import GoSem.ClaimJoined
import GoSem.ClaimMapViews
import Derived.JoinedTies
import Derived.KernelRfl
namespace Go.Proofs.YtajamfnadnonoaaDoor
/- THE CELL 'sum', in the pinned program and in every row, IS THE sha256 OF THE DUMP (.gsa) THAT YtajamfnadnonoaaDoorProg.lean LOADS. Nothing in Lean hashes anything: it is a label: what it is worth is what the hold of that sum in a sandbox is worth. -/
noncomputable def Tryd.pinned : Pinned := { name := "ytajamfnadnonoaadoor", sum := "c057778de17bb38df9eaab51fd0288312a5733b30f514c98d4e3da7cec6e0e13", checked := Tryd.checked }
namespace Rows
def none {H : Type} : Left H := { results := [], args := [] }

/- WHAT THE LISTED PACKAGE-LEVEL VARIABLES READ AS WHEN THE CALL BEGINS. Each datum BY PROGRAM (the guide's laid-datum.mjs) off the statement by which the dump's own 'gosem.cut.vars' lays the variable. In a bare row this is a premise. The card (YtajamfnadnonoaaDoorCards.lean) ties it to the program's text. -/
def laid_suzerain_base_names {H : Type} : DataW H := .agg [.lit (.string [111, 107]), .lit (.string [102, 97, 105, 108, 101, 100]), .lit (.string [110, 111, 116, 45, 115, 117, 112, 112, 111, 114, 116, 101, 100]), .lit (.string [105, 110, 118, 97, 108, 105, 100, 45, 112, 97, 114, 97, 109]), .lit (.string [100, 101, 110, 105, 101, 100]), .lit (.string [105, 110, 118, 97, 108, 105, 100, 45, 97, 100, 100, 114, 101, 115, 115]), .lit (.string [97, 108, 114, 101, 97, 100, 121, 45, 97, 118, 97, 105, 108, 97, 98, 108, 101]), .lit (.string [97, 108, 114, 101, 97, 100, 121, 45, 115, 116, 97, 114, 116, 101, 100]), .lit (.string [97, 108, 114, 101, 97, 100, 121, 45, 115, 116, 111, 112, 112, 101, 100])]

/-- 'suzerainlaw17.BaseAll': WHATEVER THE INPUT: true; the input reads as it did. -/
def baseAllSpec : ChangeSpec := { name := "baseAll", fn := fun _ => fun
  | [d1, d2, d3] => { results := [.lit (.bool true)], args := [d1, d2, d3] }
  | _ => none }
def baseAllRow : OpenClaim := { program := "ytajamfnadnonoaadoor", sum := "c057778de17bb38df9eaab51fd0288312a5733b30f514c98d4e3da7cec6e0e13", func := "suzerain/suzerainlaw17.BaseAll", spec := "baseAll", named := ["suzerain/base.names"], apart := false, laid := [("suzerain/base.names", laid_suzerain_base_names)] }
def BaseAllSaid : Prop := baseAllRow.holds Tryd.pinned (OpenSpec.ofChange baseAllSpec)

/-- ITS FALSE NEIGHBOUR: 'it returns false'. Refute it at one input. -/
def baseAllWrong : ChangeSpec := { name := "baseAll", fn := fun _ => fun
  | [d1, d2, d3] => { results := [.lit (.bool false)], args := [d1, d2, d3] }
  | _ => none }
def BaseAllWrongFalsely : Prop := baseAllRow.holds Tryd.pinned (OpenSpec.ofChange baseAllWrong)

/-- 'suzerainlaw17.BaseProbes': WHATEVER THE INPUT: true; the input reads as it did. -/
def baseProbesSpec : ChangeSpec := { name := "baseProbes", fn := fun _ => fun
  | [d1, d2] => { results := [.lit (.bool true)], args := [d1, d2] }
  | _ => none }
def baseProbesRow : OpenClaim := { program := "ytajamfnadnonoaadoor", sum := "c057778de17bb38df9eaab51fd0288312a5733b30f514c98d4e3da7cec6e0e13", func := "suzerain/suzerainlaw17.BaseProbes", spec := "baseProbes", named := ["suzerain/base.names"], apart := false, laid := [("suzerain/base.names", laid_suzerain_base_names)] }
def BaseProbesSaid : Prop := baseProbesRow.holds Tryd.pinned (OpenSpec.ofChange baseProbesSpec)

/-- ITS FALSE NEIGHBOUR: 'it returns false'. Refute it at one input. -/
def baseProbesWrong : ChangeSpec := { name := "baseProbes", fn := fun _ => fun
  | [d1, d2] => { results := [.lit (.bool false)], args := [d1, d2] }
  | _ => none }
def BaseProbesWrongFalsely : Prop := baseProbesRow.holds Tryd.pinned (OpenSpec.ofChange baseProbesWrong)

/- THE SECOND FORM. 'bulk': how many values and letters a reading holds, each counted each time it is reached (what is shared counts as often as it is met; a slice's spare places count too). A statement '..UptoSaid' is the law's where the arguments, and the package variables that the reading takes, are together of bulk at most 1048576: NARROWER than '..Said'. Prove '..Said' where nothing that the law and all that it calls make is longer than what came in: it says more and counts as full. Else prove '..UptoSaid'. A law counts once. -/
mutual
def uptoBulk {H : Type} : DataW H → Nat
  | .lit (.string bytes) => bytes.length + 1
  | .lit _ => 1
  | .nil => 1
  | .ptr d => uptoBulk d + 1
  | .slice elems spare => uptoBulkAll elems + uptoBulkAll spare + 1
  | .agg parts => uptoBulkAll parts + 1
  | .iface _ d => uptoBulk d + 1
  | .map entries => uptoBulkEntries entries + 1
  | .held _ => 1
def uptoBulkAll {H : Type} : List (DataW H) → Nat
  | [] => 0
  | d :: r => uptoBulk d + uptoBulkAll r
def uptoBulkEntries {H : Type} : List (Lit × DataW H) → Nat
  | [] => 0
  | x :: r => uptoBulkEntry x + uptoBulkEntries r
def uptoBulkEntry {H : Type} : Lit × DataW H → Nat
  | (.string bytes, d) => bytes.length + uptoBulk d + 1
  | (_, d) => uptoBulk d + 1
 end
def uptoSmall : (H : Type) → List (DataW H) → Bool := fun _ ds => decide (uptoBulkAll ds ≤ 1048576)
def OpenSpec.upto (s : _root_.Go.ChangeSpec) : _root_.Go.OpenSpec := { _root_.Go.OpenSpec.ofChange s with cond := some uptoSmall }

/-- 'suzerainlaw17.BaseAll', WHERE WHAT IT READS IS OF BULK AT MOST 1048576: true; the input reads as it did. -/
def baseAllUptoRow : OpenClaim := { program := "ytajamfnadnonoaadoor", sum := "c057778de17bb38df9eaab51fd0288312a5733b30f514c98d4e3da7cec6e0e13", func := "suzerain/suzerainlaw17.BaseAll", spec := "baseAll", named := ["suzerain/base.names"], apart := false, laid := [("suzerain/base.names", laid_suzerain_base_names)], narrowed := true }
def BaseAllUptoSaid : Prop := baseAllUptoRow.holds Tryd.pinned (OpenSpec.upto baseAllSpec)

/-- 'suzerainlaw17.BaseProbes', WHERE WHAT IT READS IS OF BULK AT MOST 1048576: true; the input reads as it did. -/
def baseProbesUptoRow : OpenClaim := { program := "ytajamfnadnonoaadoor", sum := "c057778de17bb38df9eaab51fd0288312a5733b30f514c98d4e3da7cec6e0e13", func := "suzerain/suzerainlaw17.BaseProbes", spec := "baseProbes", named := ["suzerain/base.names"], apart := false, laid := [("suzerain/base.names", laid_suzerain_base_names)], narrowed := true }
def BaseProbesUptoSaid : Prop := baseProbesUptoRow.holds Tryd.pinned (OpenSpec.upto baseProbesSpec)

end Rows
end Go.Proofs.YtajamfnadnonoaaDoor
