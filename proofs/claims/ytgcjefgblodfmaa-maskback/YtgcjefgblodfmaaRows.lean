/-
  No cell of these rows narrows 'for every input' (looked for: loops, veiled, ifaces, maps, wideKeys, modest, calm, conditions, laid).
  DERIVED. THE GIVEN ROWS OF THIS SEAT. 4 by the template 'for every input the law returns true; each argument reads behind the call as it read before'; 0 by the template 'total and deterministic' (their statements: YtgcjefgblodfmaaTotals.lean).
  GIVEN WITH THE SEED: the statements are not yours to turn. If you find one false, say at which input.
  Laid BY PROGRAM, IN A SANDBOX (cutbox-rows.mjs): the forced cells as the released guide's own fill.sh prints them over the translation 8d0cec31cf1c39b7… (all of the seat's roots in one cut). By AI agents, Wed Nov 11 2026. No macro, syntax, notation, axiom, sorry.
-/
import Derived.Test.YtgcjefgblodfmaaChecked
import GoSem.Claim
import GoSem.ClaimJoined
import GoSem.ClaimMapViews
import Derived.JoinedTies
import Derived.KernelRfl
namespace Go.Proofs.Ytgcjefgblodfmaa
/- THE CELL 'sum', in the pinned program and in every row, IS THE sha256 OF THE DUMP (.gsa) THAT YtgcjefgblodfmaaProg.lean LOADS. Nothing in Lean hashes anything: it is a label: what it is worth is what the hold of that sum in a sandbox is worth. -/
noncomputable def Try.pinned : Pinned := { name := "ytgcjefgblodfmaa", sum := "8d0cec31cf1c39b74a44ffc2c9607941624599e3f2aa97ef19a5daeddf4fb10e", checked := Try.checked }
namespace Rows
def none {H : Type} : Left H := { results := [], args := [] }

/-- 'suzerainlaw16.MaskAll': WHATEVER THE INPUT: true; the input reads as it did. -/
def maskAllSpec : ChangeSpec := { name := "maskAll", fn := fun _ => fun
  | [d1, d2, d3] => { results := [.lit (.bool true)], args := [d1, d2, d3] }
  | _ => none }
def maskAllRow : OpenClaim := { program := "ytgcjefgblodfmaa", sum := "8d0cec31cf1c39b74a44ffc2c9607941624599e3f2aa97ef19a5daeddf4fb10e", func := "suzerain/suzerainlaw16.MaskAll", spec := "maskAll", apart := false }
def MaskAllSaid : Prop := maskAllRow.holds Try.pinned (OpenSpec.ofChange maskAllSpec)

/-- ITS FALSE NEIGHBOUR: 'it returns false'. Refute it at one input. -/
def maskAllWrong : ChangeSpec := { name := "maskAll", fn := fun _ => fun
  | [d1, d2, d3] => { results := [.lit (.bool false)], args := [d1, d2, d3] }
  | _ => none }
def MaskAllWrongFalsely : Prop := maskAllRow.holds Try.pinned (OpenSpec.ofChange maskAllWrong)

/-- 'suzerainlaw16.MaskBack': WHATEVER THE INPUT: true; the input reads as it did. -/
def maskBackSpec : ChangeSpec := { name := "maskBack", fn := fun _ => fun
  | [d1, d2] => { results := [.lit (.bool true)], args := [d1, d2] }
  | _ => none }
def maskBackRow : OpenClaim := { program := "ytgcjefgblodfmaa", sum := "8d0cec31cf1c39b74a44ffc2c9607941624599e3f2aa97ef19a5daeddf4fb10e", func := "suzerain/suzerainlaw16.MaskBack", spec := "maskBack", apart := false }
def MaskBackSaid : Prop := maskBackRow.holds Try.pinned (OpenSpec.ofChange maskBackSpec)

/-- ITS FALSE NEIGHBOUR: 'it returns false'. Refute it at one input. -/
def maskBackWrong : ChangeSpec := { name := "maskBack", fn := fun _ => fun
  | [d1, d2] => { results := [.lit (.bool false)], args := [d1, d2] }
  | _ => none }
def MaskBackWrongFalsely : Prop := maskBackRow.holds Try.pinned (OpenSpec.ofChange maskBackWrong)

/-- 'suzerainlaw16.MaskShifts': WHATEVER THE INPUT: true; the input reads as it did. -/
def maskShiftsSpec : ChangeSpec := { name := "maskShifts", fn := fun _ => fun
  | [d1, d2, d3] => { results := [.lit (.bool true)], args := [d1, d2, d3] }
  | _ => none }
def maskShiftsRow : OpenClaim := { program := "ytgcjefgblodfmaa", sum := "8d0cec31cf1c39b74a44ffc2c9607941624599e3f2aa97ef19a5daeddf4fb10e", func := "suzerain/suzerainlaw16.MaskShifts", spec := "maskShifts", apart := false }
def MaskShiftsSaid : Prop := maskShiftsRow.holds Try.pinned (OpenSpec.ofChange maskShiftsSpec)

/-- ITS FALSE NEIGHBOUR: 'it returns false'. Refute it at one input. -/
def maskShiftsWrong : ChangeSpec := { name := "maskShifts", fn := fun _ => fun
  | [d1, d2, d3] => { results := [.lit (.bool false)], args := [d1, d2, d3] }
  | _ => none }
def MaskShiftsWrongFalsely : Prop := maskShiftsRow.holds Try.pinned (OpenSpec.ofChange maskShiftsWrong)

/-- 'suzerainlaw16.MaskRefuses': WHATEVER THE INPUT: true; the input reads as it did. -/
def maskRefusesSpec : ChangeSpec := { name := "maskRefuses", fn := fun _ => fun
  | [d1, d2, d3] => { results := [.lit (.bool true)], args := [d1, d2, d3] }
  | _ => none }
def maskRefusesRow : OpenClaim := { program := "ytgcjefgblodfmaa", sum := "8d0cec31cf1c39b74a44ffc2c9607941624599e3f2aa97ef19a5daeddf4fb10e", func := "suzerain/suzerainlaw16.MaskRefuses", spec := "maskRefuses", apart := false }
def MaskRefusesSaid : Prop := maskRefusesRow.holds Try.pinned (OpenSpec.ofChange maskRefusesSpec)

/-- ITS FALSE NEIGHBOUR: 'it returns false'. Refute it at one input. -/
def maskRefusesWrong : ChangeSpec := { name := "maskRefuses", fn := fun _ => fun
  | [d1, d2, d3] => { results := [.lit (.bool false)], args := [d1, d2, d3] }
  | _ => none }
def MaskRefusesWrongFalsely : Prop := maskRefusesRow.holds Try.pinned (OpenSpec.ofChange maskRefusesWrong)

/- THE SECOND FORM. 'bulk': how many values and letters a reading holds, each counted each time it is reached (what is shared counts as often as it is met; a slice's spare places count too). A statement '..UptoSaid' is the law's where the arguments, and the package variables that the reading takes, are together of bulk at most 1048576: NARROWER than '..Said'. Prove '..Said' where nothing that the law and all that it calls make is longer than what came in: it says more and counts as full. Else prove '..UptoSaid'. A law counts once. -/
mutual
def uptoBulk {H : Type} : DataW H → Nat
  | .lit (.string bytes) => bytes.length + 1
  | .lit _ => 1
  | .nil => 1
  | .ptr d => uptoBulk d + 1
  | .slice elems spare => uptoBulkAll elems + uptoBulkAll spare + 1
  | .agg parts => uptoBulkAll parts + 1
  | .iface _ d => uptoBulk d + 1
  | .map entries => uptoBulkEntries entries + 1
  | .held _ => 1
def uptoBulkAll {H : Type} : List (DataW H) → Nat
  | [] => 0
  | d :: r => uptoBulk d + uptoBulkAll r
def uptoBulkEntries {H : Type} : List (Lit × DataW H) → Nat
  | [] => 0
  | x :: r => uptoBulkEntry x + uptoBulkEntries r
def uptoBulkEntry {H : Type} : Lit × DataW H → Nat
  | (.string bytes, d) => bytes.length + uptoBulk d + 1
  | (_, d) => uptoBulk d + 1
 end
def uptoSmall : (H : Type) → List (DataW H) → Bool := fun _ ds => decide (uptoBulkAll ds ≤ 1048576)
def OpenSpec.upto (s : _root_.Go.ChangeSpec) : _root_.Go.OpenSpec := { _root_.Go.OpenSpec.ofChange s with cond := some uptoSmall }

/-- 'suzerainlaw16.MaskAll', WHERE WHAT IT READS IS OF BULK AT MOST 1048576: true; the input reads as it did. -/
def maskAllUptoRow : OpenClaim := { program := "ytgcjefgblodfmaa", sum := "8d0cec31cf1c39b74a44ffc2c9607941624599e3f2aa97ef19a5daeddf4fb10e", func := "suzerain/suzerainlaw16.MaskAll", spec := "maskAll", apart := false, narrowed := true }
def MaskAllUptoSaid : Prop := maskAllUptoRow.holds Try.pinned (OpenSpec.upto maskAllSpec)

/-- 'suzerainlaw16.MaskBack', WHERE WHAT IT READS IS OF BULK AT MOST 1048576: true; the input reads as it did. -/
def maskBackUptoRow : OpenClaim := { program := "ytgcjefgblodfmaa", sum := "8d0cec31cf1c39b74a44ffc2c9607941624599e3f2aa97ef19a5daeddf4fb10e", func := "suzerain/suzerainlaw16.MaskBack", spec := "maskBack", apart := false, narrowed := true }
def MaskBackUptoSaid : Prop := maskBackUptoRow.holds Try.pinned (OpenSpec.upto maskBackSpec)

/-- 'suzerainlaw16.MaskShifts', WHERE WHAT IT READS IS OF BULK AT MOST 1048576: true; the input reads as it did. -/
def maskShiftsUptoRow : OpenClaim := { program := "ytgcjefgblodfmaa", sum := "8d0cec31cf1c39b74a44ffc2c9607941624599e3f2aa97ef19a5daeddf4fb10e", func := "suzerain/suzerainlaw16.MaskShifts", spec := "maskShifts", apart := false, narrowed := true }
def MaskShiftsUptoSaid : Prop := maskShiftsUptoRow.holds Try.pinned (OpenSpec.upto maskShiftsSpec)

/-- 'suzerainlaw16.MaskRefuses', WHERE WHAT IT READS IS OF BULK AT MOST 1048576: true; the input reads as it did. -/
def maskRefusesUptoRow : OpenClaim := { program := "ytgcjefgblodfmaa", sum := "8d0cec31cf1c39b74a44ffc2c9607941624599e3f2aa97ef19a5daeddf4fb10e", func := "suzerain/suzerainlaw16.MaskRefuses", spec := "maskRefuses", apart := false, narrowed := true }
def MaskRefusesUptoSaid : Prop := maskRefusesUptoRow.holds Try.pinned (OpenSpec.upto maskRefusesSpec)

end Rows
end Go.Proofs.Ytgcjefgblodfmaa
