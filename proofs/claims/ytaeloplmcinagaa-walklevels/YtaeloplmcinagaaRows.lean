/-
  No cell of these rows narrows 'for every input' (looked for: loops, veiled, ifaces, maps, wideKeys, modest, calm, conditions, laid).
  DERIVED. THE GIVEN ROWS OF THIS SEAT. 5 by the template 'for every input the law returns true; each argument reads behind the call as it read before'; 0 by the template 'total and deterministic' (their statements: YtaeloplmcinagaaTotals.lean).
  GIVEN WITH THE SEED: the statements are not yours to turn. If you find one false, say at which input.
  Laid BY PROGRAM, IN A SANDBOX (cutbox-rows.mjs): the forced cells as the released guide's own fill.sh prints them over the translation 3eea256ac6089075… (all of the seat's roots in one cut). By AI agents, Wed Nov 11 2026. No macro, syntax, notation, axiom, sorry.
-/
import Derived.Test.YtaeloplmcinagaaChecked
import GoSem.Claim
import GoSem.ClaimJoined
import GoSem.ClaimMapViews
import Derived.JoinedTies
import Derived.KernelRfl
namespace Go.Proofs.Ytaeloplmcinagaa
/- THE CELL 'sum', in the pinned program and in every row, IS THE sha256 OF THE DUMP (.gsa) THAT YtaeloplmcinagaaProg.lean LOADS. Nothing in Lean hashes anything: it is a label: what it is worth is what the hold of that sum in a sandbox is worth. -/
noncomputable def Try.pinned : Pinned := { name := "ytaeloplmcinagaa", sum := "3eea256ac6089075545f3016254e410f9b538e9dbfd527144af5cf1c33e3b650", checked := Try.checked }
namespace Rows
def none {H : Type} : Left H := { results := [], args := [] }

/-- 'suzerainlaw11.WalkAll': WHATEVER THE INPUT: true; the input reads as it did. -/
def walkAllSpec : ChangeSpec := { name := "walkAll", fn := fun _ => fun
  | [d1, d2] => { results := [.lit (.bool true)], args := [d1, d2] }
  | _ => none }
def walkAllRow : OpenClaim := { program := "ytaeloplmcinagaa", sum := "3eea256ac6089075545f3016254e410f9b538e9dbfd527144af5cf1c33e3b650", func := "suzerain/suzerainlaw11.WalkAll", spec := "walkAll", unfollowed := true, recurses := true, apart := false }
def WalkAllSaid : Prop := walkAllRow.holds Try.pinned (OpenSpec.ofChange walkAllSpec)

/-- ITS FALSE NEIGHBOUR: 'it returns false'. Refute it at one input. -/
def walkAllWrong : ChangeSpec := { name := "walkAll", fn := fun _ => fun
  | [d1, d2] => { results := [.lit (.bool false)], args := [d1, d2] }
  | _ => none }
def WalkAllWrongFalsely : Prop := walkAllRow.holds Try.pinned (OpenSpec.ofChange walkAllWrong)

/-- 'suzerainlaw11.WalkMay': WHATEVER THE INPUT: true; the input reads as it did. -/
def walkMaySpec : ChangeSpec := { name := "walkMay", fn := fun _ => fun
  | [d1, d2] => { results := [.lit (.bool true)], args := [d1, d2] }
  | _ => none }
def walkMayRow : OpenClaim := { program := "ytaeloplmcinagaa", sum := "3eea256ac6089075545f3016254e410f9b538e9dbfd527144af5cf1c33e3b650", func := "suzerain/suzerainlaw11.WalkMay", spec := "walkMay", unfollowed := true, recurses := true, apart := false }
def WalkMaySaid : Prop := walkMayRow.holds Try.pinned (OpenSpec.ofChange walkMaySpec)

/-- ITS FALSE NEIGHBOUR: 'it returns false'. Refute it at one input. -/
def walkMayWrong : ChangeSpec := { name := "walkMay", fn := fun _ => fun
  | [d1, d2] => { results := [.lit (.bool false)], args := [d1, d2] }
  | _ => none }
def WalkMayWrongFalsely : Prop := walkMayRow.holds Try.pinned (OpenSpec.ofChange walkMayWrong)

/-- 'suzerainlaw11.WalkLevels': WHATEVER THE INPUT: true; the input reads as it did. -/
def walkLevelsSpec : ChangeSpec := { name := "walkLevels", fn := fun _ => fun
  | [d1, d2, d3] => { results := [.lit (.bool true)], args := [d1, d2, d3] }
  | _ => none }
def walkLevelsRow : OpenClaim := { program := "ytaeloplmcinagaa", sum := "3eea256ac6089075545f3016254e410f9b538e9dbfd527144af5cf1c33e3b650", func := "suzerain/suzerainlaw11.WalkLevels", spec := "walkLevels", unfollowed := true, recurses := true, apart := false }
def WalkLevelsSaid : Prop := walkLevelsRow.holds Try.pinned (OpenSpec.ofChange walkLevelsSpec)

/-- ITS FALSE NEIGHBOUR: 'it returns false'. Refute it at one input. -/
def walkLevelsWrong : ChangeSpec := { name := "walkLevels", fn := fun _ => fun
  | [d1, d2, d3] => { results := [.lit (.bool false)], args := [d1, d2, d3] }
  | _ => none }
def WalkLevelsWrongFalsely : Prop := walkLevelsRow.holds Try.pinned (OpenSpec.ofChange walkLevelsWrong)

/-- 'suzerainlaw11.WalkReads': WHATEVER THE INPUT: true; the input reads as it did. -/
def walkReadsSpec : ChangeSpec := { name := "walkReads", fn := fun _ => fun
  | [d1, d2] => { results := [.lit (.bool true)], args := [d1, d2] }
  | _ => none }
def walkReadsRow : OpenClaim := { program := "ytaeloplmcinagaa", sum := "3eea256ac6089075545f3016254e410f9b538e9dbfd527144af5cf1c33e3b650", func := "suzerain/suzerainlaw11.WalkReads", spec := "walkReads", unfollowed := true, recurses := true, apart := false }
def WalkReadsSaid : Prop := walkReadsRow.holds Try.pinned (OpenSpec.ofChange walkReadsSpec)

/-- ITS FALSE NEIGHBOUR: 'it returns false'. Refute it at one input. -/
def walkReadsWrong : ChangeSpec := { name := "walkReads", fn := fun _ => fun
  | [d1, d2] => { results := [.lit (.bool false)], args := [d1, d2] }
  | _ => none }
def WalkReadsWrongFalsely : Prop := walkReadsRow.holds Try.pinned (OpenSpec.ofChange walkReadsWrong)

/-- 'suzerainlaw11.WalkOffsets': WHATEVER THE INPUT: true; the input reads as it did. -/
def walkOffsetsSpec : ChangeSpec := { name := "walkOffsets", fn := fun _ => fun
  | [d1, d2, d3] => { results := [.lit (.bool true)], args := [d1, d2, d3] }
  | _ => none }
def walkOffsetsRow : OpenClaim := { program := "ytaeloplmcinagaa", sum := "3eea256ac6089075545f3016254e410f9b538e9dbfd527144af5cf1c33e3b650", func := "suzerain/suzerainlaw11.WalkOffsets", spec := "walkOffsets", unfollowed := true, recurses := true, apart := false }
def WalkOffsetsSaid : Prop := walkOffsetsRow.holds Try.pinned (OpenSpec.ofChange walkOffsetsSpec)

/-- ITS FALSE NEIGHBOUR: 'it returns false'. Refute it at one input. -/
def walkOffsetsWrong : ChangeSpec := { name := "walkOffsets", fn := fun _ => fun
  | [d1, d2, d3] => { results := [.lit (.bool false)], args := [d1, d2, d3] }
  | _ => none }
def WalkOffsetsWrongFalsely : Prop := walkOffsetsRow.holds Try.pinned (OpenSpec.ofChange walkOffsetsWrong)

/- THE SECOND FORM. 'bulk': how many values and letters a reading holds, each counted each time it is reached (what is shared counts as often as it is met; a slice's spare places count too). A statement '..UptoSaid' is the law's where the arguments, and the package variables that the reading takes, are together of bulk at most 1048576: NARROWER than '..Said'. Prove '..Said' where nothing that the law and all that it calls make is longer than what came in: it says more and counts as full. Else prove '..UptoSaid'. A law counts once. -/
mutual
def uptoBulk {H : Type} : DataW H → Nat
  | .lit (.string bytes) => bytes.length + 1
  | .lit _ => 1
  | .nil => 1
  | .ptr d => uptoBulk d + 1
  | .slice elems spare => uptoBulkAll elems + uptoBulkAll spare + 1
  | .agg parts => uptoBulkAll parts + 1
  | .iface _ d => uptoBulk d + 1
  | .map entries => uptoBulkEntries entries + 1
  | .held _ => 1
def uptoBulkAll {H : Type} : List (DataW H) → Nat
  | [] => 0
  | d :: r => uptoBulk d + uptoBulkAll r
def uptoBulkEntries {H : Type} : List (Lit × DataW H) → Nat
  | [] => 0
  | x :: r => uptoBulkEntry x + uptoBulkEntries r
def uptoBulkEntry {H : Type} : Lit × DataW H → Nat
  | (.string bytes, d) => bytes.length + uptoBulk d + 1
  | (_, d) => uptoBulk d + 1
 end
def uptoSmall : (H : Type) → List (DataW H) → Bool := fun _ ds => decide (uptoBulkAll ds ≤ 1048576)
def OpenSpec.upto (s : _root_.Go.ChangeSpec) : _root_.Go.OpenSpec := { _root_.Go.OpenSpec.ofChange s with cond := some uptoSmall }

/-- 'suzerainlaw11.WalkAll', WHERE WHAT IT READS IS OF BULK AT MOST 1048576: true; the input reads as it did. -/
def walkAllUptoRow : OpenClaim := { program := "ytaeloplmcinagaa", sum := "3eea256ac6089075545f3016254e410f9b538e9dbfd527144af5cf1c33e3b650", func := "suzerain/suzerainlaw11.WalkAll", spec := "walkAll", unfollowed := true, recurses := true, apart := false, narrowed := true }
def WalkAllUptoSaid : Prop := walkAllUptoRow.holds Try.pinned (OpenSpec.upto walkAllSpec)

/-- 'suzerainlaw11.WalkMay', WHERE WHAT IT READS IS OF BULK AT MOST 1048576: true; the input reads as it did. -/
def walkMayUptoRow : OpenClaim := { program := "ytaeloplmcinagaa", sum := "3eea256ac6089075545f3016254e410f9b538e9dbfd527144af5cf1c33e3b650", func := "suzerain/suzerainlaw11.WalkMay", spec := "walkMay", unfollowed := true, recurses := true, apart := false, narrowed := true }
def WalkMayUptoSaid : Prop := walkMayUptoRow.holds Try.pinned (OpenSpec.upto walkMaySpec)

/-- 'suzerainlaw11.WalkLevels', WHERE WHAT IT READS IS OF BULK AT MOST 1048576: true; the input reads as it did. -/
def walkLevelsUptoRow : OpenClaim := { program := "ytaeloplmcinagaa", sum := "3eea256ac6089075545f3016254e410f9b538e9dbfd527144af5cf1c33e3b650", func := "suzerain/suzerainlaw11.WalkLevels", spec := "walkLevels", unfollowed := true, recurses := true, apart := false, narrowed := true }
def WalkLevelsUptoSaid : Prop := walkLevelsUptoRow.holds Try.pinned (OpenSpec.upto walkLevelsSpec)

/-- 'suzerainlaw11.WalkReads', WHERE WHAT IT READS IS OF BULK AT MOST 1048576: true; the input reads as it did. -/
def walkReadsUptoRow : OpenClaim := { program := "ytaeloplmcinagaa", sum := "3eea256ac6089075545f3016254e410f9b538e9dbfd527144af5cf1c33e3b650", func := "suzerain/suzerainlaw11.WalkReads", spec := "walkReads", unfollowed := true, recurses := true, apart := false, narrowed := true }
def WalkReadsUptoSaid : Prop := walkReadsUptoRow.holds Try.pinned (OpenSpec.upto walkReadsSpec)

/-- 'suzerainlaw11.WalkOffsets', WHERE WHAT IT READS IS OF BULK AT MOST 1048576: true; the input reads as it did. -/
def walkOffsetsUptoRow : OpenClaim := { program := "ytaeloplmcinagaa", sum := "3eea256ac6089075545f3016254e410f9b538e9dbfd527144af5cf1c33e3b650", func := "suzerain/suzerainlaw11.WalkOffsets", spec := "walkOffsets", unfollowed := true, recurses := true, apart := false, narrowed := true }
def WalkOffsetsUptoSaid : Prop := walkOffsetsUptoRow.holds Try.pinned (OpenSpec.upto walkOffsetsSpec)

end Rows
end Go.Proofs.Ytaeloplmcinagaa
