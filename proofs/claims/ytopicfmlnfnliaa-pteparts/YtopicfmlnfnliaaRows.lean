/-
  No cell of these rows narrows 'for every input' (looked for: loops, veiled, ifaces, maps, wideKeys, modest, calm, conditions, laid).
  DERIVED. THE GIVEN ROWS OF THIS SEAT. 4 by the template 'for every input the law returns true; each argument reads behind the call as it read before'; 0 by the template 'total and deterministic' (their statements: YtopicfmlnfnliaaTotals.lean).
  GIVEN WITH THE SEED: the statements are not yours to turn. If you find one false, say at which input.
  Laid BY PROGRAM, IN A SANDBOX (cutbox-rows.mjs): the forced cells as the released guide's own fill.sh prints them over the translation 0b39751b8a721333… (all of the seat's roots in one cut). By AI agents, Wed Nov 11 2026. No macro, syntax, notation, axiom, sorry.
-/
import Derived.Test.YtopicfmlnfnliaaChecked
import GoSem.Claim
import GoSem.ClaimJoined
import GoSem.ClaimMapViews
import Derived.JoinedTies
import Derived.KernelRfl
namespace Go.Proofs.Ytopicfmlnfnliaa
/- THE CELL 'sum', in the pinned program and in every row, IS THE sha256 OF THE DUMP (.gsa) THAT YtopicfmlnfnliaaProg.lean LOADS. Nothing in Lean hashes anything: it is a label: what it is worth is what the hold of that sum in a sandbox is worth. -/
noncomputable def Try.pinned : Pinned := { name := "ytopicfmlnfnliaa", sum := "0b39751b8a7213337d80367a2eea3b14c1862b8e16b7544446c74b4709a244ad", checked := Try.checked }
namespace Rows
def none {H : Type} : Left H := { results := [], args := [] }

/-- 'suzerainlaw10.PteAll': WHATEVER THE INPUT: true; the input reads as it did. -/
def pteAllSpec : ChangeSpec := { name := "pteAll", fn := fun _ => fun
  | [d1, d2, d3] => { results := [.lit (.bool true)], args := [d1, d2, d3] }
  | _ => none }
def pteAllRow : OpenClaim := { program := "ytopicfmlnfnliaa", sum := "0b39751b8a7213337d80367a2eea3b14c1862b8e16b7544446c74b4709a244ad", func := "suzerain/suzerainlaw10.PteAll", spec := "pteAll", unfollowed := true, recurses := true, apart := false }
def PteAllSaid : Prop := pteAllRow.holds Try.pinned (OpenSpec.ofChange pteAllSpec)

/-- ITS FALSE NEIGHBOUR: 'it returns false'. Refute it at one input. -/
def pteAllWrong : ChangeSpec := { name := "pteAll", fn := fun _ => fun
  | [d1, d2, d3] => { results := [.lit (.bool false)], args := [d1, d2, d3] }
  | _ => none }
def PteAllWrongFalsely : Prop := pteAllRow.holds Try.pinned (OpenSpec.ofChange pteAllWrong)

/-- 'suzerainlaw10.PteApart': WHATEVER THE INPUT: true; the input reads as it did. -/
def pteApartSpec : ChangeSpec := { name := "pteApart", fn := fun _ => fun
  | [d1, d2] => { results := [.lit (.bool true)], args := [d1, d2] }
  | _ => none }
def pteApartRow : OpenClaim := { program := "ytopicfmlnfnliaa", sum := "0b39751b8a7213337d80367a2eea3b14c1862b8e16b7544446c74b4709a244ad", func := "suzerain/suzerainlaw10.PteApart", spec := "pteApart", unfollowed := true, recurses := true, apart := false }
def PteApartSaid : Prop := pteApartRow.holds Try.pinned (OpenSpec.ofChange pteApartSpec)

/-- ITS FALSE NEIGHBOUR: 'it returns false'. Refute it at one input. -/
def pteApartWrong : ChangeSpec := { name := "pteApart", fn := fun _ => fun
  | [d1, d2] => { results := [.lit (.bool false)], args := [d1, d2] }
  | _ => none }
def PteApartWrongFalsely : Prop := pteApartRow.holds Try.pinned (OpenSpec.ofChange pteApartWrong)

/-- 'suzerainlaw10.PteParts': WHATEVER THE INPUT: true; the input reads as it did. -/
def ptePartsSpec : ChangeSpec := { name := "pteParts", fn := fun _ => fun
  | [d1, d2, d3] => { results := [.lit (.bool true)], args := [d1, d2, d3] }
  | _ => none }
def ptePartsRow : OpenClaim := { program := "ytopicfmlnfnliaa", sum := "0b39751b8a7213337d80367a2eea3b14c1862b8e16b7544446c74b4709a244ad", func := "suzerain/suzerainlaw10.PteParts", spec := "pteParts", unfollowed := true, recurses := true, apart := false }
def PtePartsSaid : Prop := ptePartsRow.holds Try.pinned (OpenSpec.ofChange ptePartsSpec)

/-- ITS FALSE NEIGHBOUR: 'it returns false'. Refute it at one input. -/
def ptePartsWrong : ChangeSpec := { name := "pteParts", fn := fun _ => fun
  | [d1, d2, d3] => { results := [.lit (.bool false)], args := [d1, d2, d3] }
  | _ => none }
def PtePartsWrongFalsely : Prop := ptePartsRow.holds Try.pinned (OpenSpec.ofChange ptePartsWrong)

/-- 'suzerainlaw10.PteFaults': WHATEVER THE INPUT: true; the input reads as it did. -/
def pteFaultsSpec : ChangeSpec := { name := "pteFaults", fn := fun _ => fun
  | [d1, d2] => { results := [.lit (.bool true)], args := [d1, d2] }
  | _ => none }
def pteFaultsRow : OpenClaim := { program := "ytopicfmlnfnliaa", sum := "0b39751b8a7213337d80367a2eea3b14c1862b8e16b7544446c74b4709a244ad", func := "suzerain/suzerainlaw10.PteFaults", spec := "pteFaults", unfollowed := true, recurses := true, apart := false }
def PteFaultsSaid : Prop := pteFaultsRow.holds Try.pinned (OpenSpec.ofChange pteFaultsSpec)

/-- ITS FALSE NEIGHBOUR: 'it returns false'. Refute it at one input. -/
def pteFaultsWrong : ChangeSpec := { name := "pteFaults", fn := fun _ => fun
  | [d1, d2] => { results := [.lit (.bool false)], args := [d1, d2] }
  | _ => none }
def PteFaultsWrongFalsely : Prop := pteFaultsRow.holds Try.pinned (OpenSpec.ofChange pteFaultsWrong)

/- THE SECOND FORM. 'bulk': how many values and letters a reading holds, each counted each time it is reached (what is shared counts as often as it is met; a slice's spare places count too). A statement '..UptoSaid' is the law's where the arguments, and the package variables that the reading takes, are together of bulk at most 1048576: NARROWER than '..Said'. Prove '..Said' where nothing that the law and all that it calls make is longer than what came in: it says more and counts as full. Else prove '..UptoSaid'. A law counts once. -/
mutual
def uptoBulk {H : Type} : DataW H → Nat
  | .lit (.string bytes) => bytes.length + 1
  | .lit _ => 1
  | .nil => 1
  | .ptr d => uptoBulk d + 1
  | .slice elems spare => uptoBulkAll elems + uptoBulkAll spare + 1
  | .agg parts => uptoBulkAll parts + 1
  | .iface _ d => uptoBulk d + 1
  | .map entries => uptoBulkEntries entries + 1
  | .held _ => 1
def uptoBulkAll {H : Type} : List (DataW H) → Nat
  | [] => 0
  | d :: r => uptoBulk d + uptoBulkAll r
def uptoBulkEntries {H : Type} : List (Lit × DataW H) → Nat
  | [] => 0
  | x :: r => uptoBulkEntry x + uptoBulkEntries r
def uptoBulkEntry {H : Type} : Lit × DataW H → Nat
  | (.string bytes, d) => bytes.length + uptoBulk d + 1
  | (_, d) => uptoBulk d + 1
 end
def uptoSmall : (H : Type) → List (DataW H) → Bool := fun _ ds => decide (uptoBulkAll ds ≤ 1048576)
def OpenSpec.upto (s : _root_.Go.ChangeSpec) : _root_.Go.OpenSpec := { _root_.Go.OpenSpec.ofChange s with cond := some uptoSmall }

/-- 'suzerainlaw10.PteAll', WHERE WHAT IT READS IS OF BULK AT MOST 1048576: true; the input reads as it did. -/
def pteAllUptoRow : OpenClaim := { program := "ytopicfmlnfnliaa", sum := "0b39751b8a7213337d80367a2eea3b14c1862b8e16b7544446c74b4709a244ad", func := "suzerain/suzerainlaw10.PteAll", spec := "pteAll", unfollowed := true, recurses := true, apart := false, narrowed := true }
def PteAllUptoSaid : Prop := pteAllUptoRow.holds Try.pinned (OpenSpec.upto pteAllSpec)

/-- 'suzerainlaw10.PteApart', WHERE WHAT IT READS IS OF BULK AT MOST 1048576: true; the input reads as it did. -/
def pteApartUptoRow : OpenClaim := { program := "ytopicfmlnfnliaa", sum := "0b39751b8a7213337d80367a2eea3b14c1862b8e16b7544446c74b4709a244ad", func := "suzerain/suzerainlaw10.PteApart", spec := "pteApart", unfollowed := true, recurses := true, apart := false, narrowed := true }
def PteApartUptoSaid : Prop := pteApartUptoRow.holds Try.pinned (OpenSpec.upto pteApartSpec)

/-- 'suzerainlaw10.PteParts', WHERE WHAT IT READS IS OF BULK AT MOST 1048576: true; the input reads as it did. -/
def ptePartsUptoRow : OpenClaim := { program := "ytopicfmlnfnliaa", sum := "0b39751b8a7213337d80367a2eea3b14c1862b8e16b7544446c74b4709a244ad", func := "suzerain/suzerainlaw10.PteParts", spec := "pteParts", unfollowed := true, recurses := true, apart := false, narrowed := true }
def PtePartsUptoSaid : Prop := ptePartsUptoRow.holds Try.pinned (OpenSpec.upto ptePartsSpec)

/-- 'suzerainlaw10.PteFaults', WHERE WHAT IT READS IS OF BULK AT MOST 1048576: true; the input reads as it did. -/
def pteFaultsUptoRow : OpenClaim := { program := "ytopicfmlnfnliaa", sum := "0b39751b8a7213337d80367a2eea3b14c1862b8e16b7544446c74b4709a244ad", func := "suzerain/suzerainlaw10.PteFaults", spec := "pteFaults", unfollowed := true, recurses := true, apart := false, narrowed := true }
def PteFaultsUptoSaid : Prop := pteFaultsUptoRow.holds Try.pinned (OpenSpec.upto pteFaultsSpec)

end Rows
end Go.Proofs.Ytopicfmlnfnliaa
