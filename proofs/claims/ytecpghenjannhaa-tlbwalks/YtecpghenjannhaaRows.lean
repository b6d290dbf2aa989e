/-
  No cell of these rows narrows 'for every input' (looked for: loops, veiled, ifaces, maps, wideKeys, modest, calm, conditions, laid).
  DERIVED. THE GIVEN ROWS OF THIS SEAT. 5 by the template 'for every input the law returns true; each argument reads behind the call as it read before'; 0 by the template 'total and deterministic' (their statements: YtecpghenjannhaaTotals.lean).
  GIVEN WITH THE SEED: the statements are not yours to turn. If you find one false, say at which input.
  Laid BY PROGRAM, IN A SANDBOX (cutbox-rows.mjs): the forced cells as the released guide's own fill.sh prints them over the translation ee5af646b2c141df… (all of the seat's roots in one cut). By AI agents, Wed Nov 11 2026. No macro, syntax, notation, axiom, sorry.
-/
import Derived.Test.YtecpghenjannhaaChecked
import GoSem.Claim
import GoSem.ClaimJoined
import GoSem.ClaimMapViews
import Derived.JoinedTies
import Derived.KernelRfl
namespace Go.Proofs.Ytecpghenjannhaa
/- THE CELL 'sum', in the pinned program and in every row, IS THE sha256 OF THE DUMP (.gsa) THAT YtecpghenjannhaaProg.lean LOADS. Nothing in Lean hashes anything: it is a label: what it is worth is what the hold of that sum in a sandbox is worth. -/
noncomputable def Try.pinned : Pinned := { name := "ytecpghenjannhaa", sum := "ee5af646b2c141df0c89d6d32c4f7d3484d27296e22e40828b8b5b33162c1fec", checked := Try.checked }
namespace Rows
def none {H : Type} : Left H := { results := [], args := [] }

/-- 'suzerainlaw12.TlbPlays': WHATEVER THE INPUT: true; the input reads as it did. -/
def tlbPlaysSpec : ChangeSpec := { name := "tlbPlays", fn := fun _ => fun
  | [d1, d2, d3] => { results := [.lit (.bool true)], args := [d1, d2, d3] }
  | _ => none }
def tlbPlaysRow : OpenClaim := { program := "ytecpghenjannhaa", sum := "ee5af646b2c141df0c89d6d32c4f7d3484d27296e22e40828b8b5b33162c1fec", func := "suzerain/suzerainlaw12.TlbPlays", spec := "tlbPlays", inPlace := ["sync/atomic.AddUint64", "sync/atomic.LoadUint64", "sync/atomic.StoreUint64"], unfollowed := true, recurses := true, apart := false }
def TlbPlaysSaid : Prop := tlbPlaysRow.holds Try.pinned (OpenSpec.ofChange tlbPlaysSpec)

/-- ITS FALSE NEIGHBOUR: 'it returns false'. Refute it at one input. -/
def tlbPlaysWrong : ChangeSpec := { name := "tlbPlays", fn := fun _ => fun
  | [d1, d2, d3] => { results := [.lit (.bool false)], args := [d1, d2, d3] }
  | _ => none }
def TlbPlaysWrongFalsely : Prop := tlbPlaysRow.holds Try.pinned (OpenSpec.ofChange tlbPlaysWrong)

/-- 'suzerainlaw12.TlbWalks': WHATEVER THE INPUT: true; the input reads as it did. -/
def tlbWalksSpec : ChangeSpec := { name := "tlbWalks", fn := fun _ => fun
  | [d1, d2, d3] => { results := [.lit (.bool true)], args := [d1, d2, d3] }
  | _ => none }
def tlbWalksRow : OpenClaim := { program := "ytecpghenjannhaa", sum := "ee5af646b2c141df0c89d6d32c4f7d3484d27296e22e40828b8b5b33162c1fec", func := "suzerain/suzerainlaw12.TlbWalks", spec := "tlbWalks", inPlace := ["sync/atomic.AddUint64"], unfollowed := true, recurses := true, apart := false }
def TlbWalksSaid : Prop := tlbWalksRow.holds Try.pinned (OpenSpec.ofChange tlbWalksSpec)

/-- ITS FALSE NEIGHBOUR: 'it returns false'. Refute it at one input. -/
def tlbWalksWrong : ChangeSpec := { name := "tlbWalks", fn := fun _ => fun
  | [d1, d2, d3] => { results := [.lit (.bool false)], args := [d1, d2, d3] }
  | _ => none }
def TlbWalksWrongFalsely : Prop := tlbWalksRow.holds Try.pinned (OpenSpec.ofChange tlbWalksWrong)

/-- 'suzerainlaw12.TlbFences': WHATEVER THE INPUT: true; the input reads as it did. -/
def tlbFencesSpec : ChangeSpec := { name := "tlbFences", fn := fun _ => fun
  | [d1, d2, d3] => { results := [.lit (.bool true)], args := [d1, d2, d3] }
  | _ => none }
def tlbFencesRow : OpenClaim := { program := "ytecpghenjannhaa", sum := "ee5af646b2c141df0c89d6d32c4f7d3484d27296e22e40828b8b5b33162c1fec", func := "suzerain/suzerainlaw12.TlbFences", spec := "tlbFences", inPlace := ["sync/atomic.AddUint64", "sync/atomic.LoadUint64", "sync/atomic.StoreUint64"], unfollowed := true, recurses := true, apart := false }
def TlbFencesSaid : Prop := tlbFencesRow.holds Try.pinned (OpenSpec.ofChange tlbFencesSpec)

/-- ITS FALSE NEIGHBOUR: 'it returns false'. Refute it at one input. -/
def tlbFencesWrong : ChangeSpec := { name := "tlbFences", fn := fun _ => fun
  | [d1, d2, d3] => { results := [.lit (.bool false)], args := [d1, d2, d3] }
  | _ => none }
def TlbFencesWrongFalsely : Prop := tlbFencesRow.holds Try.pinned (OpenSpec.ofChange tlbFencesWrong)

/-- 'suzerainlaw12.TlbOrder': WHATEVER THE INPUT: true; the input reads as it did. -/
def tlbOrderSpec : ChangeSpec := { name := "tlbOrder", fn := fun _ => fun
  | [d1, d2, d3] => { results := [.lit (.bool true)], args := [d1, d2, d3] }
  | _ => none }
def tlbOrderRow : OpenClaim := { program := "ytecpghenjannhaa", sum := "ee5af646b2c141df0c89d6d32c4f7d3484d27296e22e40828b8b5b33162c1fec", func := "suzerain/suzerainlaw12.TlbOrder", spec := "tlbOrder", unfollowed := true, recurses := true, apart := false }
def TlbOrderSaid : Prop := tlbOrderRow.holds Try.pinned (OpenSpec.ofChange tlbOrderSpec)

/-- ITS FALSE NEIGHBOUR: 'it returns false'. Refute it at one input. -/
def tlbOrderWrong : ChangeSpec := { name := "tlbOrder", fn := fun _ => fun
  | [d1, d2, d3] => { results := [.lit (.bool false)], args := [d1, d2, d3] }
  | _ => none }
def TlbOrderWrongFalsely : Prop := tlbOrderRow.holds Try.pinned (OpenSpec.ofChange tlbOrderWrong)

/-- 'suzerainlaw12.TlbMisses': WHATEVER THE INPUT: true; the input reads as it did. -/
def tlbMissesSpec : ChangeSpec := { name := "tlbMisses", fn := fun _ => fun
  | [d1, d2] => { results := [.lit (.bool true)], args := [d1, d2] }
  | _ => none }
def tlbMissesRow : OpenClaim := { program := "ytecpghenjannhaa", sum := "ee5af646b2c141df0c89d6d32c4f7d3484d27296e22e40828b8b5b33162c1fec", func := "suzerain/suzerainlaw12.TlbMisses", spec := "tlbMisses", inPlace := ["sync/atomic.AddUint64", "sync/atomic.LoadUint64"], unfollowed := true, recurses := true, apart := false }
def TlbMissesSaid : Prop := tlbMissesRow.holds Try.pinned (OpenSpec.ofChange tlbMissesSpec)

/-- ITS FALSE NEIGHBOUR: 'it returns false'. Refute it at one input. -/
def tlbMissesWrong : ChangeSpec := { name := "tlbMisses", fn := fun _ => fun
  | [d1, d2] => { results := [.lit (.bool false)], args := [d1, d2] }
  | _ => none }
def TlbMissesWrongFalsely : Prop := tlbMissesRow.holds Try.pinned (OpenSpec.ofChange tlbMissesWrong)

/- THE SECOND FORM. 'bulk': how many values and letters a reading holds, each counted each time it is reached (what is shared counts as often as it is met; a slice's spare places count too). A statement '..UptoSaid' is the law's where the arguments, and the package variables that the reading takes, are together of bulk at most 1048576: NARROWER than '..Said'. Prove '..Said' where nothing that the law and all that it calls make is longer than what came in: it says more and counts as full. Else prove '..UptoSaid'. A law counts once. -/
mutual
def uptoBulk {H : Type} : DataW H → Nat
  | .lit (.string bytes) => bytes.length + 1
  | .lit _ => 1
  | .nil => 1
  | .ptr d => uptoBulk d + 1
  | .slice elems spare => uptoBulkAll elems + uptoBulkAll spare + 1
  | .agg parts => uptoBulkAll parts + 1
  | .iface _ d => uptoBulk d + 1
  | .map entries => uptoBulkEntries entries + 1
  | .held _ => 1
def uptoBulkAll {H : Type} : List (DataW H) → Nat
  | [] => 0
  | d :: r => uptoBulk d + uptoBulkAll r
def uptoBulkEntries {H : Type} : List (Lit × DataW H) → Nat
  | [] => 0
  | x :: r => uptoBulkEntry x + uptoBulkEntries r
def uptoBulkEntry {H : Type} : Lit × DataW H → Nat
  | (.string bytes, d) => bytes.length + uptoBulk d + 1
  | (_, d) => uptoBulk d + 1
 end
def uptoSmall : (H : Type) → List (DataW H) → Bool := fun _ ds => decide (uptoBulkAll ds ≤ 1048576)
def OpenSpec.upto (s : _root_.Go.ChangeSpec) : _root_.Go.OpenSpec := { _root_.Go.OpenSpec.ofChange s with cond := some uptoSmall }

/-- 'suzerainlaw12.TlbPlays', WHERE WHAT IT READS IS OF BULK AT MOST 1048576: true; the input reads as it did. -/
def tlbPlaysUptoRow : OpenClaim := { program := "ytecpghenjannhaa", sum := "ee5af646b2c141df0c89d6d32c4f7d3484d27296e22e40828b8b5b33162c1fec", func := "suzerain/suzerainlaw12.TlbPlays", spec := "tlbPlays", inPlace := ["sync/atomic.AddUint64", "sync/atomic.LoadUint64", "sync/atomic.StoreUint64"], unfollowed := true, recurses := true, apart := false, narrowed := true }
def TlbPlaysUptoSaid : Prop := tlbPlaysUptoRow.holds Try.pinned (OpenSpec.upto tlbPlaysSpec)

/-- 'suzerainlaw12.TlbWalks', WHERE WHAT IT READS IS OF BULK AT MOST 1048576: true; the input reads as it did. -/
def tlbWalksUptoRow : OpenClaim := { program := "ytecpghenjannhaa", sum := "ee5af646b2c141df0c89d6d32c4f7d3484d27296e22e40828b8b5b33162c1fec", func := "suzerain/suzerainlaw12.TlbWalks", spec := "tlbWalks", inPlace := ["sync/atomic.AddUint64"], unfollowed := true, recurses := true, apart := false, narrowed := true }
def TlbWalksUptoSaid : Prop := tlbWalksUptoRow.holds Try.pinned (OpenSpec.upto tlbWalksSpec)

/-- 'suzerainlaw12.TlbFences', WHERE WHAT IT READS IS OF BULK AT MOST 1048576: true; the input reads as it did. -/
def tlbFencesUptoRow : OpenClaim := { program := "ytecpghenjannhaa", sum := "ee5af646b2c141df0c89d6d32c4f7d3484d27296e22e40828b8b5b33162c1fec", func := "suzerain/suzerainlaw12.TlbFences", spec := "tlbFences", inPlace := ["sync/atomic.AddUint64", "sync/atomic.LoadUint64", "sync/atomic.StoreUint64"], unfollowed := true, recurses := true, apart := false, narrowed := true }
def TlbFencesUptoSaid : Prop := tlbFencesUptoRow.holds Try.pinned (OpenSpec.upto tlbFencesSpec)

/-- 'suzerainlaw12.TlbOrder', WHERE WHAT IT READS IS OF BULK AT MOST 1048576: true; the input reads as it did. -/
def tlbOrderUptoRow : OpenClaim := { program := "ytecpghenjannhaa", sum := "ee5af646b2c141df0c89d6d32c4f7d3484d27296e22e40828b8b5b33162c1fec", func := "suzerain/suzerainlaw12.TlbOrder", spec := "tlbOrder", unfollowed := true, recurses := true, apart := false, narrowed := true }
def TlbOrderUptoSaid : Prop := tlbOrderUptoRow.holds Try.pinned (OpenSpec.upto tlbOrderSpec)

/-- 'suzerainlaw12.TlbMisses', WHERE WHAT IT READS IS OF BULK AT MOST 1048576: true; the input reads as it did. -/
def tlbMissesUptoRow : OpenClaim := { program := "ytecpghenjannhaa", sum := "ee5af646b2c141df0c89d6d32c4f7d3484d27296e22e40828b8b5b33162c1fec", func := "suzerain/suzerainlaw12.TlbMisses", spec := "tlbMisses", inPlace := ["sync/atomic.AddUint64", "sync/atomic.LoadUint64"], unfollowed := true, recurses := true, apart := false, narrowed := true }
def TlbMissesUptoSaid : Prop := tlbMissesUptoRow.holds Try.pinned (OpenSpec.upto tlbMissesSpec)

end Rows
end Go.Proofs.Ytecpghenjannhaa
