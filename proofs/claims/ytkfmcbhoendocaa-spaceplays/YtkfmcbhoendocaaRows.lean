/-
  No cell of these rows narrows 'for every input' (looked for: loops, veiled, ifaces, maps, wideKeys, modest, calm, conditions, laid).
  DERIVED. THE GIVEN ROWS OF THIS SEAT. 6 by the template 'for every input the law returns true; each argument reads behind the call as it read before'; 0 by the template 'total and deterministic' (their statements: YtkfmcbhoendocaaTotals.lean).
  GIVEN WITH THE SEED: the statements are not yours to turn. If you find one false, say at which input.
  Laid BY PROGRAM, IN A SANDBOX (cutbox-rows.mjs): the forced cells as the released guide's own fill.sh prints them over the translation 516b8677e6f1d5d5… (all of the seat's roots in one cut). By AI agents, Wed Nov 11 2026. No macro, syntax, notation, axiom, sorry.
-/
import Derived.Test.YtkfmcbhoendocaaChecked
import GoSem.Claim
import GoSem.ClaimJoined
import GoSem.ClaimMapViews
import Derived.JoinedTies
import Derived.KernelRfl
namespace Go.Proofs.Ytkfmcbhoendocaa
/- THE CELL 'sum', in the pinned program and in every row, IS THE sha256 OF THE DUMP (.gsa) THAT YtkfmcbhoendocaaProg.lean LOADS. Nothing in Lean hashes anything: it is a label: what it is worth is what the hold of that sum in a sandbox is worth. -/
noncomputable def Try.pinned : Pinned := { name := "ytkfmcbhoendocaa", sum := "516b8677e6f1d5d5a1b379aaead4bd4502bc1281ba6a63a0823f3c8ab6eeb9d2", checked := Try.checked }
namespace Rows
def none {H : Type} : Left H := { results := [], args := [] }

/-- 'suzerainlaw14.TrapEnters': WHATEVER THE INPUT: true; the input reads as it did. -/
def trapEntersSpec : ChangeSpec := { name := "trapEnters", fn := fun _ => fun
  | [d1, d2] => { results := [.lit (.bool true)], args := [d1, d2] }
  | _ => none }
def trapEntersRow : OpenClaim := { program := "ytkfmcbhoendocaa", sum := "516b8677e6f1d5d5a1b379aaead4bd4502bc1281ba6a63a0823f3c8ab6eeb9d2", func := "suzerain/suzerainlaw14.TrapEnters", spec := "trapEnters", unfollowed := true, recurses := true, apart := false }
def TrapEntersSaid : Prop := trapEntersRow.holds Try.pinned (OpenSpec.ofChange trapEntersSpec)

/-- ITS FALSE NEIGHBOUR: 'it returns false'. Refute it at one input. -/
def trapEntersWrong : ChangeSpec := { name := "trapEnters", fn := fun _ => fun
  | [d1, d2] => { results := [.lit (.bool false)], args := [d1, d2] }
  | _ => none }
def TrapEntersWrongFalsely : Prop := trapEntersRow.holds Try.pinned (OpenSpec.ofChange trapEntersWrong)

/-- 'suzerainlaw14.TrapTwice': WHATEVER THE INPUT: true; the input reads as it did. -/
def trapTwiceSpec : ChangeSpec := { name := "trapTwice", fn := fun _ => fun
  | [d1, d2, d3] => { results := [.lit (.bool true)], args := [d1, d2, d3] }
  | _ => none }
def trapTwiceRow : OpenClaim := { program := "ytkfmcbhoendocaa", sum := "516b8677e6f1d5d5a1b379aaead4bd4502bc1281ba6a63a0823f3c8ab6eeb9d2", func := "suzerain/suzerainlaw14.TrapTwice", spec := "trapTwice", unfollowed := true, recurses := true, apart := false }
def TrapTwiceSaid : Prop := trapTwiceRow.holds Try.pinned (OpenSpec.ofChange trapTwiceSpec)

/-- ITS FALSE NEIGHBOUR: 'it returns false'. Refute it at one input. -/
def trapTwiceWrong : ChangeSpec := { name := "trapTwice", fn := fun _ => fun
  | [d1, d2, d3] => { results := [.lit (.bool false)], args := [d1, d2, d3] }
  | _ => none }
def TrapTwiceWrongFalsely : Prop := trapTwiceRow.holds Try.pinned (OpenSpec.ofChange trapTwiceWrong)

/-- 'suzerainlaw12.TlbFences': WHATEVER THE INPUT: true; the input reads as it did. -/
def tlbFencesSpec : ChangeSpec := { name := "tlbFences", fn := fun _ => fun
  | [d1, d2, d3] => { results := [.lit (.bool true)], args := [d1, d2, d3] }
  | _ => none }
def tlbFencesRow : OpenClaim := { program := "ytkfmcbhoendocaa", sum := "516b8677e6f1d5d5a1b379aaead4bd4502bc1281ba6a63a0823f3c8ab6eeb9d2", func := "suzerain/suzerainlaw12.TlbFences", spec := "tlbFences", inPlace := ["sync/atomic.AddUint64", "sync/atomic.LoadUint64", "sync/atomic.StoreUint64"], unfollowed := true, recurses := true, apart := false }
def TlbFencesSaid : Prop := tlbFencesRow.holds Try.pinned (OpenSpec.ofChange tlbFencesSpec)

/-- ITS FALSE NEIGHBOUR: 'it returns false'. Refute it at one input. -/
def tlbFencesWrong : ChangeSpec := { name := "tlbFences", fn := fun _ => fun
  | [d1, d2, d3] => { results := [.lit (.bool false)], args := [d1, d2, d3] }
  | _ => none }
def TlbFencesWrongFalsely : Prop := tlbFencesRow.holds Try.pinned (OpenSpec.ofChange tlbFencesWrong)

/-- 'suzerainlaw12.TlbOrder': WHATEVER THE INPUT: true; the input reads as it did. -/
def tlbOrderSpec : ChangeSpec := { name := "tlbOrder", fn := fun _ => fun
  | [d1, d2, d3] => { results := [.lit (.bool true)], args := [d1, d2, d3] }
  | _ => none }
def tlbOrderRow : OpenClaim := { program := "ytkfmcbhoendocaa", sum := "516b8677e6f1d5d5a1b379aaead4bd4502bc1281ba6a63a0823f3c8ab6eeb9d2", func := "suzerain/suzerainlaw12.TlbOrder", spec := "tlbOrder", unfollowed := true, recurses := true, apart := false }
def TlbOrderSaid : Prop := tlbOrderRow.holds Try.pinned (OpenSpec.ofChange tlbOrderSpec)

/-- ITS FALSE NEIGHBOUR: 'it returns false'. Refute it at one input. -/
def tlbOrderWrong : ChangeSpec := { name := "tlbOrder", fn := fun _ => fun
  | [d1, d2, d3] => { results := [.lit (.bool false)], args := [d1, d2, d3] }
  | _ => none }
def TlbOrderWrongFalsely : Prop := tlbOrderRow.holds Try.pinned (OpenSpec.ofChange tlbOrderWrong)

/-- 'suzerainlaw12.TlbPlays': WHATEVER THE INPUT: true; the input reads as it did. -/
def tlbPlaysSpec : ChangeSpec := { name := "tlbPlays", fn := fun _ => fun
  | [d1, d2, d3] => { results := [.lit (.bool true)], args := [d1, d2, d3] }
  | _ => none }
def tlbPlaysRow : OpenClaim := { program := "ytkfmcbhoendocaa", sum := "516b8677e6f1d5d5a1b379aaead4bd4502bc1281ba6a63a0823f3c8ab6eeb9d2", func := "suzerain/suzerainlaw12.TlbPlays", spec := "tlbPlays", inPlace := ["sync/atomic.AddUint64", "sync/atomic.LoadUint64", "sync/atomic.StoreUint64"], unfollowed := true, recurses := true, apart := false }
def TlbPlaysSaid : Prop := tlbPlaysRow.holds Try.pinned (OpenSpec.ofChange tlbPlaysSpec)

/-- ITS FALSE NEIGHBOUR: 'it returns false'. Refute it at one input. -/
def tlbPlaysWrong : ChangeSpec := { name := "tlbPlays", fn := fun _ => fun
  | [d1, d2, d3] => { results := [.lit (.bool false)], args := [d1, d2, d3] }
  | _ => none }
def TlbPlaysWrongFalsely : Prop := tlbPlaysRow.holds Try.pinned (OpenSpec.ofChange tlbPlaysWrong)

/-- 'suzerainlaw13.SpacePlays': WHATEVER THE INPUT: true; the input reads as it did. -/
def spacePlaysSpec : ChangeSpec := { name := "spacePlays", fn := fun _ => fun
  | [d1, d2, d3] => { results := [.lit (.bool true)], args := [d1, d2, d3] }
  | _ => none }
def spacePlaysRow : OpenClaim := { program := "ytkfmcbhoendocaa", sum := "516b8677e6f1d5d5a1b379aaead4bd4502bc1281ba6a63a0823f3c8ab6eeb9d2", func := "suzerain/suzerainlaw13.SpacePlays", spec := "spacePlays", inPlace := ["sync/atomic.AddUint64"], unfollowed := true, recurses := true, apart := false }
def SpacePlaysSaid : Prop := spacePlaysRow.holds Try.pinned (OpenSpec.ofChange spacePlaysSpec)

/-- ITS FALSE NEIGHBOUR: 'it returns false'. Refute it at one input. -/
def spacePlaysWrong : ChangeSpec := { name := "spacePlays", fn := fun _ => fun
  | [d1, d2, d3] => { results := [.lit (.bool false)], args := [d1, d2, d3] }
  | _ => none }
def SpacePlaysWrongFalsely : Prop := spacePlaysRow.holds Try.pinned (OpenSpec.ofChange spacePlaysWrong)

/- THE SECOND FORM. 'bulk': how many values and letters a reading holds, each counted each time it is reached (what is shared counts as often as it is met; a slice's spare places count too). A statement '..UptoSaid' is the law's where the arguments, and the package variables that the reading takes, are together of bulk at most 1048576: NARROWER than '..Said'. Prove '..Said' where nothing that the law and all that it calls make is longer than what came in: it says more and counts as full. Else prove '..UptoSaid'. A law counts once. -/
mutual
def uptoBulk {H : Type} : DataW H → Nat
  | .lit (.string bytes) => bytes.length + 1
  | .lit _ => 1
  | .nil => 1
  | .ptr d => uptoBulk d + 1
  | .slice elems spare => uptoBulkAll elems + uptoBulkAll spare + 1
  | .agg parts => uptoBulkAll parts + 1
  | .iface _ d => uptoBulk d + 1
  | .map entries => uptoBulkEntries entries + 1
  | .held _ => 1
def uptoBulkAll {H : Type} : List (DataW H) → Nat
  | [] => 0
  | d :: r => uptoBulk d + uptoBulkAll r
def uptoBulkEntries {H : Type} : List (Lit × DataW H) → Nat
  | [] => 0
  | x :: r => uptoBulkEntry x + uptoBulkEntries r
def uptoBulkEntry {H : Type} : Lit × DataW H → Nat
  | (.string bytes, d) => bytes.length + uptoBulk d + 1
  | (_, d) => uptoBulk d + 1
 end
def uptoSmall : (H : Type) → List (DataW H) → Bool := fun _ ds => decide (uptoBulkAll ds ≤ 1048576)
def OpenSpec.upto (s : _root_.Go.ChangeSpec) : _root_.Go.OpenSpec := { _root_.Go.OpenSpec.ofChange s with cond := some uptoSmall }

/-- 'suzerainlaw14.TrapEnters', WHERE WHAT IT READS IS OF BULK AT MOST 1048576: true; the input reads as it did. -/
def trapEntersUptoRow : OpenClaim := { program := "ytkfmcbhoendocaa", sum := "516b8677e6f1d5d5a1b379aaead4bd4502bc1281ba6a63a0823f3c8ab6eeb9d2", func := "suzerain/suzerainlaw14.TrapEnters", spec := "trapEnters", unfollowed := true, recurses := true, apart := false, narrowed := true }
def TrapEntersUptoSaid : Prop := trapEntersUptoRow.holds Try.pinned (OpenSpec.upto trapEntersSpec)

/-- 'suzerainlaw14.TrapTwice', WHERE WHAT IT READS IS OF BULK AT MOST 1048576: true; the input reads as it did. -/
def trapTwiceUptoRow : OpenClaim := { program := "ytkfmcbhoendocaa", sum := "516b8677e6f1d5d5a1b379aaead4bd4502bc1281ba6a63a0823f3c8ab6eeb9d2", func := "suzerain/suzerainlaw14.TrapTwice", spec := "trapTwice", unfollowed := true, recurses := true, apart := false, narrowed := true }
def TrapTwiceUptoSaid : Prop := trapTwiceUptoRow.holds Try.pinned (OpenSpec.upto trapTwiceSpec)

/-- 'suzerainlaw12.TlbFences', WHERE WHAT IT READS IS OF BULK AT MOST 1048576: true; the input reads as it did. -/
def tlbFencesUptoRow : OpenClaim := { program := "ytkfmcbhoendocaa", sum := "516b8677e6f1d5d5a1b379aaead4bd4502bc1281ba6a63a0823f3c8ab6eeb9d2", func := "suzerain/suzerainlaw12.TlbFences", spec := "tlbFences", inPlace := ["sync/atomic.AddUint64", "sync/atomic.LoadUint64", "sync/atomic.StoreUint64"], unfollowed := true, recurses := true, apart := false, narrowed := true }
def TlbFencesUptoSaid : Prop := tlbFencesUptoRow.holds Try.pinned (OpenSpec.upto tlbFencesSpec)

/-- 'suzerainlaw12.TlbOrder', WHERE WHAT IT READS IS OF BULK AT MOST 1048576: true; the input reads as it did. -/
def tlbOrderUptoRow : OpenClaim := { program := "ytkfmcbhoendocaa", sum := "516b8677e6f1d5d5a1b379aaead4bd4502bc1281ba6a63a0823f3c8ab6eeb9d2", func := "suzerain/suzerainlaw12.TlbOrder", spec := "tlbOrder", unfollowed := true, recurses := true, apart := false, narrowed := true }
def TlbOrderUptoSaid : Prop := tlbOrderUptoRow.holds Try.pinned (OpenSpec.upto tlbOrderSpec)

/-- 'suzerainlaw12.TlbPlays', WHERE WHAT IT READS IS OF BULK AT MOST 1048576: true; the input reads as it did. -/
def tlbPlaysUptoRow : OpenClaim := { program := "ytkfmcbhoendocaa", sum := "516b8677e6f1d5d5a1b379aaead4bd4502bc1281ba6a63a0823f3c8ab6eeb9d2", func := "suzerain/suzerainlaw12.TlbPlays", spec := "tlbPlays", inPlace := ["sync/atomic.AddUint64", "sync/atomic.LoadUint64", "sync/atomic.StoreUint64"], unfollowed := true, recurses := true, apart := false, narrowed := true }
def TlbPlaysUptoSaid : Prop := tlbPlaysUptoRow.holds Try.pinned (OpenSpec.upto tlbPlaysSpec)

/-- 'suzerainlaw13.SpacePlays', WHERE WHAT IT READS IS OF BULK AT MOST 1048576: true; the input reads as it did. -/
def spacePlaysUptoRow : OpenClaim := { program := "ytkfmcbhoendocaa", sum := "516b8677e6f1d5d5a1b379aaead4bd4502bc1281ba6a63a0823f3c8ab6eeb9d2", func := "suzerain/suzerainlaw13.SpacePlays", spec := "spacePlays", inPlace := ["sync/atomic.AddUint64"], unfollowed := true, recurses := true, apart := false, narrowed := true }
def SpacePlaysUptoSaid : Prop := spacePlaysUptoRow.holds Try.pinned (OpenSpec.upto spacePlaysSpec)

end Rows
end Go.Proofs.Ytkfmcbhoendocaa
