/-
  NARROWER THAN 'FOR EVERY INPUT', by the rows' own cells (each row's printed sentence says how): TrapAll: laid · TrapBack: laid · TrapTakes: laid.
  DERIVED. THE GIVEN ROWS OF THIS SEAT. 3 by the template 'for every input the law returns true; each argument reads behind the call as it read before'; 0 by the template 'total and deterministic' (their statements: YtkfmcbhoendocaaDoorTotals.lean).
  GIVEN WITH THE SEED: the statements are not yours to turn. If you find one false, say at which input.
  Laid BY PROGRAM, IN A SANDBOX (cutbox-rows.mjs): the forced cells as the released guide's own fill.sh prints them over the translation 32d0ba8378678cf4… (all of the seat's roots in one cut). By AI agents, Wed Nov 11 2026. No macro, syntax, notation, axiom, sorry.
-/
import Derived.Test.YtkfmcbhoendocaaDoorChecked
import GoSem.Claim
import GoSem.ClaimJoined
import GoSem.ClaimMapViews
import Derived.JoinedTies
import Derived.KernelRfl
namespace Go.Proofs.YtkfmcbhoendocaaDoor
/- THE CELL 'sum', in the pinned program and in every row, IS THE sha256 OF THE DUMP (.gsa) THAT YtkfmcbhoendocaaDoorProg.lean LOADS. Nothing in Lean hashes anything: it is a label: what it is worth is what the hold of that sum in a sandbox is worth. -/
noncomputable def Tryd.pinned : Pinned := { name := "ytkfmcbhoendocaadoor", sum := "32d0ba8378678cf4b86351afa94163949398bb7fb0090fbd8fbc22413d5d7526", checked := Tryd.checked }
namespace Rows
def none {H : Type} : Left H := { results := [], args := [] }

/- WHAT THE LISTED PACKAGE-LEVEL VARIABLES READ AS WHEN THE CALL BEGINS. Each datum BY PROGRAM (the guide's laid-datum.mjs) off the statement by which the dump's own 'gosem.cut.vars' lays the variable. In a bare row this is a premise. The card (YtkfmcbhoendocaaDoorCards.lean) ties it to the program's text. -/
def laid_suzerain_trap_interrupts {H : Type} : DataW H := .agg [.lit (.int .i64 1), .lit (.int .i64 5)]

/-- 'suzerainlaw14.TrapAll': WHATEVER THE INPUT: true; the input reads as it did. -/
def trapAllSpec : ChangeSpec := { name := "trapAll", fn := fun _ => fun
  | [d1, d2] => { results := [.lit (.bool true)], args := [d1, d2] }
  | _ => none }
def trapAllRow : OpenClaim := { program := "ytkfmcbhoendocaadoor", sum := "32d0ba8378678cf4b86351afa94163949398bb7fb0090fbd8fbc22413d5d7526", func := "suzerain/suzerainlaw14.TrapAll", spec := "trapAll", unfollowed := true, recurses := true, named := ["suzerain/trap.interrupts"], apart := false, laid := [("suzerain/trap.interrupts", laid_suzerain_trap_interrupts)] }
def TrapAllSaid : Prop := trapAllRow.holds Tryd.pinned (OpenSpec.ofChange trapAllSpec)

/-- ITS FALSE NEIGHBOUR: 'it returns false'. Refute it at one input. -/
def trapAllWrong : ChangeSpec := { name := "trapAll", fn := fun _ => fun
  | [d1, d2] => { results := [.lit (.bool false)], args := [d1, d2] }
  | _ => none }
def TrapAllWrongFalsely : Prop := trapAllRow.holds Tryd.pinned (OpenSpec.ofChange trapAllWrong)

/-- 'suzerainlaw14.TrapBack': WHATEVER THE INPUT: true; the input reads as it did. -/
def trapBackSpec : ChangeSpec := { name := "trapBack", fn := fun _ => fun
  | [d1, d2] => { results := [.lit (.bool true)], args := [d1, d2] }
  | _ => none }
def trapBackRow : OpenClaim := { program := "ytkfmcbhoendocaadoor", sum := "32d0ba8378678cf4b86351afa94163949398bb7fb0090fbd8fbc22413d5d7526", func := "suzerain/suzerainlaw14.TrapBack", spec := "trapBack", unfollowed := true, recurses := true, named := ["suzerain/trap.interrupts"], apart := false, laid := [("suzerain/trap.interrupts", laid_suzerain_trap_interrupts)] }
def TrapBackSaid : Prop := trapBackRow.holds Tryd.pinned (OpenSpec.ofChange trapBackSpec)

/-- ITS FALSE NEIGHBOUR: 'it returns false'. Refute it at one input. -/
def trapBackWrong : ChangeSpec := { name := "trapBack", fn := fun _ => fun
  | [d1, d2] => { results := [.lit (.bool false)], args := [d1, d2] }
  | _ => none }
def TrapBackWrongFalsely : Prop := trapBackRow.holds Tryd.pinned (OpenSpec.ofChange trapBackWrong)

/-- 'suzerainlaw14.TrapTakes': WHATEVER THE INPUT: true; the input reads as it did. -/
def trapTakesSpec : ChangeSpec := { name := "trapTakes", fn := fun _ => fun
  | [d1, d2] => { results := [.lit (.bool true)], args := [d1, d2] }
  | _ => none }
def trapTakesRow : OpenClaim := { program := "ytkfmcbhoendocaadoor", sum := "32d0ba8378678cf4b86351afa94163949398bb7fb0090fbd8fbc22413d5d7526", func := "suzerain/suzerainlaw14.TrapTakes", spec := "trapTakes", unfollowed := true, recurses := true, named := ["suzerain/trap.interrupts"], apart := false, laid := [("suzerain/trap.interrupts", laid_suzerain_trap_interrupts)] }
def TrapTakesSaid : Prop := trapTakesRow.holds Tryd.pinned (OpenSpec.ofChange trapTakesSpec)

/-- ITS FALSE NEIGHBOUR: 'it returns false'. Refute it at one input. -/
def trapTakesWrong : ChangeSpec := { name := "trapTakes", fn := fun _ => fun
  | [d1, d2] => { results := [.lit (.bool false)], args := [d1, d2] }
  | _ => none }
def TrapTakesWrongFalsely : Prop := trapTakesRow.holds Tryd.pinned (OpenSpec.ofChange trapTakesWrong)

/- THE SECOND FORM. 'bulk': how many values and letters a reading holds, each counted each time it is reached (what is shared counts as often as it is met; a slice's spare places count too). A statement '..UptoSaid' is the law's where the arguments, and the package variables that the reading takes, are together of bulk at most 1048576: NARROWER than '..Said'. Prove '..Said' where nothing that the law and all that it calls make is longer than what came in: it says more and counts as full. Else prove '..UptoSaid'. A law counts once. -/
mutual
def uptoBulk {H : Type} : DataW H → Nat
  | .lit (.string bytes) => bytes.length + 1
  | .lit _ => 1
  | .nil => 1
  | .ptr d => uptoBulk d + 1
  | .slice elems spare => uptoBulkAll elems + uptoBulkAll spare + 1
  | .agg parts => uptoBulkAll parts + 1
  | .iface _ d => uptoBulk d + 1
  | .map entries => uptoBulkEntries entries + 1
  | .held _ => 1
def uptoBulkAll {H : Type} : List (DataW H) → Nat
  | [] => 0
  | d :: r => uptoBulk d + uptoBulkAll r
def uptoBulkEntries {H : Type} : List (Lit × DataW H) → Nat
  | [] => 0
  | x :: r => uptoBulkEntry x + uptoBulkEntries r
def uptoBulkEntry {H : Type} : Lit × DataW H → Nat
  | (.string bytes, d) => bytes.length + uptoBulk d + 1
  | (_, d) => uptoBulk d + 1
 end
def uptoSmall : (H : Type) → List (DataW H) → Bool := fun _ ds => decide (uptoBulkAll ds ≤ 1048576)
def OpenSpec.upto (s : _root_.Go.ChangeSpec) : _root_.Go.OpenSpec := { _root_.Go.OpenSpec.ofChange s with cond := some uptoSmall }

/-- 'suzerainlaw14.TrapAll', WHERE WHAT IT READS IS OF BULK AT MOST 1048576: true; the input reads as it did. -/
def trapAllUptoRow : OpenClaim := { program := "ytkfmcbhoendocaadoor", sum := "32d0ba8378678cf4b86351afa94163949398bb7fb0090fbd8fbc22413d5d7526", func := "suzerain/suzerainlaw14.TrapAll", spec := "trapAll", unfollowed := true, recurses := true, named := ["suzerain/trap.interrupts"], apart := false, laid := [("suzerain/trap.interrupts", laid_suzerain_trap_interrupts)], narrowed := true }
def TrapAllUptoSaid : Prop := trapAllUptoRow.holds Tryd.pinned (OpenSpec.upto trapAllSpec)

/-- 'suzerainlaw14.TrapBack', WHERE WHAT IT READS IS OF BULK AT MOST 1048576: true; the input reads as it did. -/
def trapBackUptoRow : OpenClaim := { program := "ytkfmcbhoendocaadoor", sum := "32d0ba8378678cf4b86351afa94163949398bb7fb0090fbd8fbc22413d5d7526", func := "suzerain/suzerainlaw14.TrapBack", spec := "trapBack", unfollowed := true, recurses := true, named := ["suzerain/trap.interrupts"], apart := false, laid := [("suzerain/trap.interrupts", laid_suzerain_trap_interrupts)], narrowed := true }
def TrapBackUptoSaid : Prop := trapBackUptoRow.holds Tryd.pinned (OpenSpec.upto trapBackSpec)

/-- 'suzerainlaw14.TrapTakes', WHERE WHAT IT READS IS OF BULK AT MOST 1048576: true; the input reads as it did. -/
def trapTakesUptoRow : OpenClaim := { program := "ytkfmcbhoendocaadoor", sum := "32d0ba8378678cf4b86351afa94163949398bb7fb0090fbd8fbc22413d5d7526", func := "suzerain/suzerainlaw14.TrapTakes", spec := "trapTakes", unfollowed := true, recurses := true, named := ["suzerain/trap.interrupts"], apart := false, laid := [("suzerain/trap.interrupts", laid_suzerain_trap_interrupts)], narrowed := true }
def TrapTakesUptoSaid : Prop := trapTakesUptoRow.holds Tryd.pinned (OpenSpec.upto trapTakesSpec)

end Rows
end Go.Proofs.YtkfmcbhoendocaaDoor
