/-
  NARROWER THAN 'FOR EVERY INPUT', by the rows' own cells (each row's printed sentence says how): EncAll: laid · EncBack: laid · EncRefuses: laid · EncNames: laid · EncRegisters: laid.
  DERIVED. THE GIVEN ROWS OF THIS SEAT. 5 by the template 'for every input the law returns true; each argument reads behind the call as it read before'; 0 by the template 'total and deterministic' (their statements: YtpbeamnogfjagaaGreatDoorTotals.lean).
  GIVEN WITH THE SEED: the statements are not yours to turn. If you find one false, say at which input.
  Laid BY PROGRAM, IN A SANDBOX (cutbox-rows.mjs): the forced cells as the released guide's own fill.sh prints them over the translation 8dddcfb6aded31ed… (all of the seat's roots in one cut). By AI agents, Wed Nov 11 2026. No macro, syntax, notation, axiom, sorry.
-/
import Derived.Test.YtpbeamnogfjagaaGreatDoorChecked
import GoSem.Claim
import GoSem.ClaimJoined
import GoSem.ClaimMapViews
import Derived.JoinedTies
import Derived.KernelRfl
namespace Go.Proofs.YtpbeamnogfjagaaGreatDoor
/- THE CELL 'sum', in the pinned program and in every row, IS THE sha256 OF THE DUMP (.gsa) THAT YtpbeamnogfjagaaGreatDoorProg.lean LOADS. Nothing in Lean hashes anything: it is a label: what it is worth is what the hold of that sum in a sandbox is worth. -/
noncomputable def Tryz.pinned : Pinned := { name := "ytpbeamnogfjagaagreatdoor", sum := "8dddcfb6aded31ed2f75e9bfec64b3a2d1852dc5063ac7a8d55236c525648ee9", checked := Tryz.checked }
namespace Rows
def none {H : Type} : Left H := { results := [], args := [] }

/- WHAT THE LISTED PACKAGE-LEVEL VARIABLES READ AS WHEN THE CALL BEGINS. Each datum BY PROGRAM (the guide's laid-datum.mjs) off the statement by which the dump's own 'gosem.cut.vars' lays the variable. In a bare row this is a premise. The card (YtpbeamnogfjagaaGreatDoorCards.lean) ties it to the program's text. -/
def laid_math_bits_deBruijn32tab {H : Type} : DataW H := .agg [.lit (.int .u8 0), .lit (.int .u8 1), .lit (.int .u8 28), .lit (.int .u8 2), .lit (.int .u8 29), .lit (.int .u8 14), .lit (.int .u8 24), .lit (.int .u8 3), .lit (.int .u8 30), .lit (.int .u8 22), .lit (.int .u8 20), .lit (.int .u8 15), .lit (.int .u8 25), .lit (.int .u8 17), .lit (.int .u8 4), .lit (.int .u8 8), .lit (.int .u8 31), .lit (.int .u8 27), .lit (.int .u8 13), .lit (.int .u8 23), .lit (.int .u8 21), .lit (.int .u8 19), .lit (.int .u8 16), .lit (.int .u8 7), .lit (.int .u8 26), .lit (.int .u8 12), .lit (.int .u8 18), .lit (.int .u8 6), .lit (.int .u8 11), .lit (.int .u8 5), .lit (.int .u8 10), .lit (.int .u8 9)]
def laid_math_bits_deBruijn64tab {H : Type} : DataW H := .agg [.lit (.int .u8 0), .lit (.int .u8 1), .lit (.int .u8 56), .lit (.int .u8 2), .lit (.int .u8 57), .lit (.int .u8 49), .lit (.int .u8 28), .lit (.int .u8 3), .lit (.int .u8 61), .lit (.int .u8 58), .lit (.int .u8 42), .lit (.int .u8 50), .lit (.int .u8 38), .lit (.int .u8 29), .lit (.int .u8 17), .lit (.int .u8 4), .lit (.int .u8 62), .lit (.int .u8 47), .lit (.int .u8 59), .lit (.int .u8 36), .lit (.int .u8 45), .lit (.int .u8 43), .lit (.int .u8 51), .lit (.int .u8 22), .lit (.int .u8 53), .lit (.int .u8 39), .lit (.int .u8 33), .lit (.int .u8 30), .lit (.int .u8 24), .lit (.int .u8 18), .lit (.int .u8 12), .lit (.int .u8 5), .lit (.int .u8 63), .lit (.int .u8 55), .lit (.int .u8 48), .lit (.int .u8 27), .lit (.int .u8 60), .lit (.int .u8 41), .lit (.int .u8 37), .lit (.int .u8 16), .lit (.int .u8 46), .lit (.int .u8 35), .lit (.int .u8 44), .lit (.int .u8 21), .lit (.int .u8 52), .lit (.int .u8 32), .lit (.int .u8 23), .lit (.int .u8 11), .lit (.int .u8 54), .lit (.int .u8 26), .lit (.int .u8 40), .lit (.int .u8 15), .lit (.int .u8 34), .lit (.int .u8 20), .lit (.int .u8 31), .lit (.int .u8 10), .lit (.int .u8 25), .lit (.int .u8 14), .lit (.int .u8 19), .lit (.int .u8 9), .lit (.int .u8 13), .lit (.int .u8 8), .lit (.int .u8 7), .lit (.int .u8 6)]
def laid_internal_strconv_uint64pow10 {H : Type} : DataW H := .agg [.lit (.int .u64 1), .lit (.int .u64 10), .lit (.int .u64 100), .lit (.int .u64 1000), .lit (.int .u64 10000), .lit (.int .u64 100000), .lit (.int .u64 1000000), .lit (.int .u64 10000000), .lit (.int .u64 100000000), .lit (.int .u64 1000000000), .lit (.int .u64 10000000000), .lit (.int .u64 100000000000), .lit (.int .u64 1000000000000), .lit (.int .u64 10000000000000), .lit (.int .u64 100000000000000), .lit (.int .u64 1000000000000000), .lit (.int .u64 10000000000000000), .lit (.int .u64 100000000000000000), .lit (.int .u64 1000000000000000000), .lit (.int .u64 10000000000000000000)]
def laid_suzerain_decode_lastOf {H : Type} : DataW H := .agg [.lit (.int .i64 0), .lit (.int .i64 4), .lit (.int .i64 10), .lit (.int .i64 17), .lit (.int .i64 21), .lit (.int .i64 30), .lit (.int .i64 40), .lit (.int .i64 44), .lit (.int .i64 49), .lit (.int .i64 57), .lit (.int .i64 62), .lit (.int .i64 69), .lit (.int .i64 75), .lit (.int .i64 86), .lit (.int .i64 97)]
def laid_suzerain_enc_names {H : Type} : DataW H := .agg [.lit (.string [105, 108, 108, 101, 103, 97, 108]), .lit (.string [108, 117, 105]), .lit (.string [97, 117, 105, 112, 99]), .lit (.string [106, 97, 108]), .lit (.string [106, 97, 108, 114]), .lit (.string [98, 101, 113]), .lit (.string [98, 110, 101]), .lit (.string [98, 108, 116]), .lit (.string [98, 103, 101]), .lit (.string [98, 108, 116, 117]), .lit (.string [98, 103, 101, 117]), .lit (.string [108, 98]), .lit (.string [108, 104]), .lit (.string [108, 119]), .lit (.string [108, 100]), .lit (.string [108, 98, 117]), .lit (.string [108, 104, 117]), .lit (.string [108, 119, 117]), .lit (.string [115, 98]), .lit (.string [115, 104]), .lit (.string [115, 119]), .lit (.string [115, 100]), .lit (.string [97, 100, 100, 105]), .lit (.string [115, 108, 116, 105]), .lit (.string [115, 108, 116, 105, 117]), .lit (.string [120, 111, 114, 105]), .lit (.string [111, 114, 105]), .lit (.string [97, 110, 100, 105]), .lit (.string [115, 108, 108, 105]), .lit (.string [115, 114, 108, 105]), .lit (.string [115, 114, 97, 105]), .lit (.string [97, 100, 100]), .lit (.string [115, 117, 98]), .lit (.string [115, 108, 108]), .lit (.string [115, 108, 116]), .lit (.string [115, 108, 116, 117]), .lit (.string [120, 111, 114]), .lit (.string [115, 114, 108]), .lit (.string [115, 114, 97]), .lit (.string [111, 114]), .lit (.string [97, 110, 100]), .lit (.string [97, 100, 100, 105, 119]), .lit (.string [115, 108, 108, 105, 119]), .lit (.string [115, 114, 108, 105, 119]), .lit (.string [115, 114, 97, 105, 119]), .lit (.string [97, 100, 100, 119]), .lit (.string [115, 117, 98, 119]), .lit (.string [115, 108, 108, 119]), .lit (.string [115, 114, 108, 119]), .lit (.string [115, 114, 97, 119]), .lit (.string [109, 117, 108]), .lit (.string [109, 117, 108, 104]), .lit (.string [109, 117, 108, 104, 115, 117]), .lit (.string [109, 117, 108, 104, 117]), .lit (.string [100, 105, 118]), .lit (.string [100, 105, 118, 117]), .lit (.string [114, 101, 109]), .lit (.string [114, 101, 109, 117]), .lit (.string [109, 117, 108, 119]), .lit (.string [100, 105, 118, 119]), .lit (.string [100, 105, 118, 117, 119]), .lit (.string [114, 101, 109, 119]), .lit (.string [114, 101, 109, 117, 119]), .lit (.string [102, 101, 110, 99, 101]), .lit (.string [102, 101, 110, 99, 101, 105]), .lit (.string [101, 99, 97, 108, 108]), .lit (.string [101, 98, 114, 101, 97, 107]), .lit (.string [115, 114, 101, 116]), .lit (.string [119, 102, 105]), .lit (.string [115, 102, 101, 110, 99, 101]), .lit (.string [99, 115, 114, 114, 119]), .lit (.string [99, 115, 114, 114, 115]), .lit (.string [99, 115, 114, 114, 99]), .lit (.string [99, 115, 114, 114, 119, 105]), .lit (.string [99, 115, 114, 114, 115, 105]), .lit (.string [99, 115, 114, 114, 99, 105])]
def laid_suzerain_enc_atomicNames {H : Type} : DataW H := .agg [.lit (.string [108, 114, 46]), .lit (.string [115, 99, 46]), .lit (.string [97, 109, 111, 115, 119, 97, 112, 46]), .lit (.string [97, 109, 111, 97, 100, 100, 46]), .lit (.string [97, 109, 111, 120, 111, 114, 46]), .lit (.string [97, 109, 111, 97, 110, 100, 46]), .lit (.string [97, 109, 111, 111, 114, 46]), .lit (.string [97, 109, 111, 109, 105, 110, 46]), .lit (.string [97, 109, 111, 109, 97, 120, 46]), .lit (.string [97, 109, 111, 109, 105, 110, 117, 46]), .lit (.string [97, 109, 111, 109, 97, 120, 117, 46])]

/-- 'suzerainlaw06.EncAll': WHATEVER THE INPUT: true; the input reads as it did. -/
def encAllSpec : ChangeSpec := { name := "encAll", fn := fun _ => fun
  | [d] => { results := [.lit (.bool true)], args := [d] }
  | _ => none }
def encAllRow : OpenClaim := { program := "ytpbeamnogfjagaagreatdoor", sum := "8dddcfb6aded31ed2f75e9bfec64b3a2d1852dc5063ac7a8d55236c525648ee9", func := "suzerain/suzerainlaw06.EncAll", spec := "encAll", inPlace := ["internal/abi.NoEscape", "internal/bytealg.MakeNoZero"], unfollowed := true, recurses := true, named := ["suzerain/decode.lastOf", "suzerain/enc.names", "suzerain/enc.atomicNames", "internal/strconv.uint64pow10", "math/bits.deBruijn32tab", "math/bits.deBruijn64tab"], apart := false, laid := [("math/bits.deBruijn32tab", laid_math_bits_deBruijn32tab), ("math/bits.deBruijn64tab", laid_math_bits_deBruijn64tab), ("internal/strconv.uint64pow10", laid_internal_strconv_uint64pow10), ("suzerain/decode.lastOf", laid_suzerain_decode_lastOf), ("suzerain/enc.names", laid_suzerain_enc_names), ("suzerain/enc.atomicNames", laid_suzerain_enc_atomicNames)] }
def EncAllSaid : Prop := encAllRow.holds Tryz.pinned (OpenSpec.ofChange encAllSpec)

/-- ITS FALSE NEIGHBOUR: 'it returns false'. Refute it at one input. -/
def encAllWrong : ChangeSpec := { name := "encAll", fn := fun _ => fun
  | [d] => { results := [.lit (.bool false)], args := [d] }
  | _ => none }
def EncAllWrongFalsely : Prop := encAllRow.holds Tryz.pinned (OpenSpec.ofChange encAllWrong)

/-- 'suzerainlaw06.EncBack': WHATEVER THE INPUT: true; the input reads as it did. -/
def encBackSpec : ChangeSpec := { name := "encBack", fn := fun _ => fun
  | [d1, d2] => { results := [.lit (.bool true)], args := [d1, d2] }
  | _ => none }
def encBackRow : OpenClaim := { program := "ytpbeamnogfjagaagreatdoor", sum := "8dddcfb6aded31ed2f75e9bfec64b3a2d1852dc5063ac7a8d55236c525648ee9", func := "suzerain/suzerainlaw06.EncBack", spec := "encBack", inPlace := ["internal/abi.NoEscape", "internal/bytealg.MakeNoZero"], unfollowed := true, recurses := true, named := ["suzerain/decode.lastOf", "suzerain/enc.names", "suzerain/enc.atomicNames", "internal/strconv.uint64pow10", "math/bits.deBruijn32tab", "math/bits.deBruijn64tab"], apart := false, laid := [("math/bits.deBruijn32tab", laid_math_bits_deBruijn32tab), ("math/bits.deBruijn64tab", laid_math_bits_deBruijn64tab), ("internal/strconv.uint64pow10", laid_internal_strconv_uint64pow10), ("suzerain/decode.lastOf", laid_suzerain_decode_lastOf), ("suzerain/enc.names", laid_suzerain_enc_names), ("suzerain/enc.atomicNames", laid_suzerain_enc_atomicNames)] }
def EncBackSaid : Prop := encBackRow.holds Tryz.pinned (OpenSpec.ofChange encBackSpec)

/-- ITS FALSE NEIGHBOUR: 'it returns false'. Refute it at one input. -/
def encBackWrong : ChangeSpec := { name := "encBack", fn := fun _ => fun
  | [d1, d2] => { results := [.lit (.bool false)], args := [d1, d2] }
  | _ => none }
def EncBackWrongFalsely : Prop := encBackRow.holds Tryz.pinned (OpenSpec.ofChange encBackWrong)

/-- 'suzerainlaw06.EncRefuses': WHATEVER THE INPUT: true; the input reads as it did. -/
def encRefusesSpec : ChangeSpec := { name := "encRefuses", fn := fun _ => fun
  | [d1, d2] => { results := [.lit (.bool true)], args := [d1, d2] }
  | _ => none }
def encRefusesRow : OpenClaim := { program := "ytpbeamnogfjagaagreatdoor", sum := "8dddcfb6aded31ed2f75e9bfec64b3a2d1852dc5063ac7a8d55236c525648ee9", func := "suzerain/suzerainlaw06.EncRefuses", spec := "encRefuses", inPlace := ["internal/abi.NoEscape", "internal/bytealg.MakeNoZero"], unfollowed := true, recurses := true, named := ["suzerain/decode.lastOf", "suzerain/enc.names", "suzerain/enc.atomicNames", "internal/strconv.uint64pow10", "math/bits.deBruijn32tab", "math/bits.deBruijn64tab"], apart := false, laid := [("math/bits.deBruijn32tab", laid_math_bits_deBruijn32tab), ("math/bits.deBruijn64tab", laid_math_bits_deBruijn64tab), ("internal/strconv.uint64pow10", laid_internal_strconv_uint64pow10), ("suzerain/decode.lastOf", laid_suzerain_decode_lastOf), ("suzerain/enc.names", laid_suzerain_enc_names), ("suzerain/enc.atomicNames", laid_suzerain_enc_atomicNames)] }
def EncRefusesSaid : Prop := encRefusesRow.holds Tryz.pinned (OpenSpec.ofChange encRefusesSpec)

/-- ITS FALSE NEIGHBOUR: 'it returns false'. Refute it at one input. -/
def encRefusesWrong : ChangeSpec := { name := "encRefuses", fn := fun _ => fun
  | [d1, d2] => { results := [.lit (.bool false)], args := [d1, d2] }
  | _ => none }
def EncRefusesWrongFalsely : Prop := encRefusesRow.holds Tryz.pinned (OpenSpec.ofChange encRefusesWrong)

/-- 'suzerainlaw06.EncNames': WHATEVER THE INPUT: true; the input reads as it did. -/
def encNamesSpec : ChangeSpec := { name := "encNames", fn := fun _ => fun
  | [d1, d2, d3] => { results := [.lit (.bool true)], args := [d1, d2, d3] }
  | _ => none }
def encNamesRow : OpenClaim := { program := "ytpbeamnogfjagaagreatdoor", sum := "8dddcfb6aded31ed2f75e9bfec64b3a2d1852dc5063ac7a8d55236c525648ee9", func := "suzerain/suzerainlaw06.EncNames", spec := "encNames", inPlace := ["internal/abi.NoEscape", "internal/bytealg.MakeNoZero"], unfollowed := true, recurses := true, named := ["suzerain/decode.lastOf", "suzerain/enc.names", "suzerain/enc.atomicNames", "internal/strconv.uint64pow10", "math/bits.deBruijn32tab", "math/bits.deBruijn64tab"], apart := false, laid := [("math/bits.deBruijn32tab", laid_math_bits_deBruijn32tab), ("math/bits.deBruijn64tab", laid_math_bits_deBruijn64tab), ("internal/strconv.uint64pow10", laid_internal_strconv_uint64pow10), ("suzerain/decode.lastOf", laid_suzerain_decode_lastOf), ("suzerain/enc.names", laid_suzerain_enc_names), ("suzerain/enc.atomicNames", laid_suzerain_enc_atomicNames)] }
def EncNamesSaid : Prop := encNamesRow.holds Tryz.pinned (OpenSpec.ofChange encNamesSpec)

/-- ITS FALSE NEIGHBOUR: 'it returns false'. Refute it at one input. -/
def encNamesWrong : ChangeSpec := { name := "encNames", fn := fun _ => fun
  | [d1, d2, d3] => { results := [.lit (.bool false)], args := [d1, d2, d3] }
  | _ => none }
def EncNamesWrongFalsely : Prop := encNamesRow.holds Tryz.pinned (OpenSpec.ofChange encNamesWrong)

/-- 'suzerainlaw06.EncRegisters': WHATEVER THE INPUT: true; the input reads as it did. -/
def encRegistersSpec : ChangeSpec := { name := "encRegisters", fn := fun _ => fun
  | [d1, d2] => { results := [.lit (.bool true)], args := [d1, d2] }
  | _ => none }
def encRegistersRow : OpenClaim := { program := "ytpbeamnogfjagaagreatdoor", sum := "8dddcfb6aded31ed2f75e9bfec64b3a2d1852dc5063ac7a8d55236c525648ee9", func := "suzerain/suzerainlaw06.EncRegisters", spec := "encRegisters", inPlace := ["internal/abi.NoEscape", "internal/bytealg.MakeNoZero"], unfollowed := true, recurses := true, named := ["suzerain/decode.lastOf", "suzerain/enc.names", "suzerain/enc.atomicNames", "internal/strconv.uint64pow10", "math/bits.deBruijn32tab", "math/bits.deBruijn64tab"], apart := false, laid := [("math/bits.deBruijn32tab", laid_math_bits_deBruijn32tab), ("math/bits.deBruijn64tab", laid_math_bits_deBruijn64tab), ("internal/strconv.uint64pow10", laid_internal_strconv_uint64pow10), ("suzerain/decode.lastOf", laid_suzerain_decode_lastOf), ("suzerain/enc.names", laid_suzerain_enc_names), ("suzerain/enc.atomicNames", laid_suzerain_enc_atomicNames)] }
def EncRegistersSaid : Prop := encRegistersRow.holds Tryz.pinned (OpenSpec.ofChange encRegistersSpec)

/-- ITS FALSE NEIGHBOUR: 'it returns false'. Refute it at one input. -/
def encRegistersWrong : ChangeSpec := { name := "encRegisters", fn := fun _ => fun
  | [d1, d2] => { results := [.lit (.bool false)], args := [d1, d2] }
  | _ => none }
def EncRegistersWrongFalsely : Prop := encRegistersRow.holds Tryz.pinned (OpenSpec.ofChange encRegistersWrong)

/- THE SECOND FORM. 'bulk': how many values and letters a reading holds, each counted each time it is reached (what is shared counts as often as it is met; a slice's spare places count too). A statement '..UptoSaid' is the law's where the arguments, and the package variables that the reading takes, are together of bulk at most 1048576: NARROWER than '..Said'. Prove '..Said' where nothing that the law and all that it calls make is longer than what came in: it says more and counts as full. Else prove '..UptoSaid'. A law counts once. -/
mutual
def uptoBulk {H : Type} : DataW H → Nat
  | .lit (.string bytes) => bytes.length + 1
  | .lit _ => 1
  | .nil => 1
  | .ptr d => uptoBulk d + 1
  | .slice elems spare => uptoBulkAll elems + uptoBulkAll spare + 1
  | .agg parts => uptoBulkAll parts + 1
  | .iface _ d => uptoBulk d + 1
  | .map entries => uptoBulkEntries entries + 1
  | .held _ => 1
def uptoBulkAll {H : Type} : List (DataW H) → Nat
  | [] => 0
  | d :: r => uptoBulk d + uptoBulkAll r
def uptoBulkEntries {H : Type} : List (Lit × DataW H) → Nat
  | [] => 0
  | x :: r => uptoBulkEntry x + uptoBulkEntries r
def uptoBulkEntry {H : Type} : Lit × DataW H → Nat
  | (.string bytes, d) => bytes.length + uptoBulk d + 1
  | (_, d) => uptoBulk d + 1
 end
def uptoSmall : (H : Type) → List (DataW H) → Bool := fun _ ds => decide (uptoBulkAll ds ≤ 1048576)
def OpenSpec.upto (s : _root_.Go.ChangeSpec) : _root_.Go.OpenSpec := { _root_.Go.OpenSpec.ofChange s with cond := some uptoSmall }

/-- 'suzerainlaw06.EncAll', WHERE WHAT IT READS IS OF BULK AT MOST 1048576: true; the input reads as it did. -/
def encAllUptoRow : OpenClaim := { program := "ytpbeamnogfjagaagreatdoor", sum := "8dddcfb6aded31ed2f75e9bfec64b3a2d1852dc5063ac7a8d55236c525648ee9", func := "suzerain/suzerainlaw06.EncAll", spec := "encAll", inPlace := ["internal/abi.NoEscape", "internal/bytealg.MakeNoZero"], unfollowed := true, recurses := true, named := ["suzerain/decode.lastOf", "suzerain/enc.names", "suzerain/enc.atomicNames", "internal/strconv.uint64pow10", "math/bits.deBruijn32tab", "math/bits.deBruijn64tab"], apart := false, laid := [("math/bits.deBruijn32tab", laid_math_bits_deBruijn32tab), ("math/bits.deBruijn64tab", laid_math_bits_deBruijn64tab), ("internal/strconv.uint64pow10", laid_internal_strconv_uint64pow10), ("suzerain/decode.lastOf", laid_suzerain_decode_lastOf), ("suzerain/enc.names", laid_suzerain_enc_names), ("suzerain/enc.atomicNames", laid_suzerain_enc_atomicNames)], narrowed := true }
def EncAllUptoSaid : Prop := encAllUptoRow.holds Tryz.pinned (OpenSpec.upto encAllSpec)

/-- 'suzerainlaw06.EncBack', WHERE WHAT IT READS IS OF BULK AT MOST 1048576: true; the input reads as it did. -/
def encBackUptoRow : OpenClaim := { program := "ytpbeamnogfjagaagreatdoor", sum := "8dddcfb6aded31ed2f75e9bfec64b3a2d1852dc5063ac7a8d55236c525648ee9", func := "suzerain/suzerainlaw06.EncBack", spec := "encBack", inPlace := ["internal/abi.NoEscape", "internal/bytealg.MakeNoZero"], unfollowed := true, recurses := true, named := ["suzerain/decode.lastOf", "suzerain/enc.names", "suzerain/enc.atomicNames", "internal/strconv.uint64pow10", "math/bits.deBruijn32tab", "math/bits.deBruijn64tab"], apart := false, laid := [("math/bits.deBruijn32tab", laid_math_bits_deBruijn32tab), ("math/bits.deBruijn64tab", laid_math_bits_deBruijn64tab), ("internal/strconv.uint64pow10", laid_internal_strconv_uint64pow10), ("suzerain/decode.lastOf", laid_suzerain_decode_lastOf), ("suzerain/enc.names", laid_suzerain_enc_names), ("suzerain/enc.atomicNames", laid_suzerain_enc_atomicNames)], narrowed := true }
def EncBackUptoSaid : Prop := encBackUptoRow.holds Tryz.pinned (OpenSpec.upto encBackSpec)

/-- 'suzerainlaw06.EncRefuses', WHERE WHAT IT READS IS OF BULK AT MOST 1048576: true; the input reads as it did. -/
def encRefusesUptoRow : OpenClaim := { program := "ytpbeamnogfjagaagreatdoor", sum := "8dddcfb6aded31ed2f75e9bfec64b3a2d1852dc5063ac7a8d55236c525648ee9", func := "suzerain/suzerainlaw06.EncRefuses", spec := "encRefuses", inPlace := ["internal/abi.NoEscape", "internal/bytealg.MakeNoZero"], unfollowed := true, recurses := true, named := ["suzerain/decode.lastOf", "suzerain/enc.names", "suzerain/enc.atomicNames", "internal/strconv.uint64pow10", "math/bits.deBruijn32tab", "math/bits.deBruijn64tab"], apart := false, laid := [("math/bits.deBruijn32tab", laid_math_bits_deBruijn32tab), ("math/bits.deBruijn64tab", laid_math_bits_deBruijn64tab), ("internal/strconv.uint64pow10", laid_internal_strconv_uint64pow10), ("suzerain/decode.lastOf", laid_suzerain_decode_lastOf), ("suzerain/enc.names", laid_suzerain_enc_names), ("suzerain/enc.atomicNames", laid_suzerain_enc_atomicNames)], narrowed := true }
def EncRefusesUptoSaid : Prop := encRefusesUptoRow.holds Tryz.pinned (OpenSpec.upto encRefusesSpec)

/-- 'suzerainlaw06.EncNames', WHERE WHAT IT READS IS OF BULK AT MOST 1048576: true; the input reads as it did. -/
def encNamesUptoRow : OpenClaim := { program := "ytpbeamnogfjagaagreatdoor", sum := "8dddcfb6aded31ed2f75e9bfec64b3a2d1852dc5063ac7a8d55236c525648ee9", func := "suzerain/suzerainlaw06.EncNames", spec := "encNames", inPlace := ["internal/abi.NoEscape", "internal/bytealg.MakeNoZero"], unfollowed := true, recurses := true, named := ["suzerain/decode.lastOf", "suzerain/enc.names", "suzerain/enc.atomicNames", "internal/strconv.uint64pow10", "math/bits.deBruijn32tab", "math/bits.deBruijn64tab"], apart := false, laid := [("math/bits.deBruijn32tab", laid_math_bits_deBruijn32tab), ("math/bits.deBruijn64tab", laid_math_bits_deBruijn64tab), ("internal/strconv.uint64pow10", laid_internal_strconv_uint64pow10), ("suzerain/decode.lastOf", laid_suzerain_decode_lastOf), ("suzerain/enc.names", laid_suzerain_enc_names), ("suzerain/enc.atomicNames", laid_suzerain_enc_atomicNames)], narrowed := true }
def EncNamesUptoSaid : Prop := encNamesUptoRow.holds Tryz.pinned (OpenSpec.upto encNamesSpec)

/-- 'suzerainlaw06.EncRegisters', WHERE WHAT IT READS IS OF BULK AT MOST 1048576: true; the input reads as it did. -/
def encRegistersUptoRow : OpenClaim := { program := "ytpbeamnogfjagaagreatdoor", sum := "8dddcfb6aded31ed2f75e9bfec64b3a2d1852dc5063ac7a8d55236c525648ee9", func := "suzerain/suzerainlaw06.EncRegisters", spec := "encRegisters", inPlace := ["internal/abi.NoEscape", "internal/bytealg.MakeNoZero"], unfollowed := true, recurses := true, named := ["suzerain/decode.lastOf", "suzerain/enc.names", "suzerain/enc.atomicNames", "internal/strconv.uint64pow10", "math/bits.deBruijn32tab", "math/bits.deBruijn64tab"], apart := false, laid := [("math/bits.deBruijn32tab", laid_math_bits_deBruijn32tab), ("math/bits.deBruijn64tab", laid_math_bits_deBruijn64tab), ("internal/strconv.uint64pow10", laid_internal_strconv_uint64pow10), ("suzerain/decode.lastOf", laid_suzerain_decode_lastOf), ("suzerain/enc.names", laid_suzerain_enc_names), ("suzerain/enc.atomicNames", laid_suzerain_enc_atomicNames)], narrowed := true }
def EncRegistersUptoSaid : Prop := encRegistersUptoRow.holds Tryz.pinned (OpenSpec.upto encRegistersSpec)

end Rows
end Go.Proofs.YtpbeamnogfjagaaGreatDoor
