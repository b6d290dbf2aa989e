/-
  What the document's own Do (package suzerainref09) answers: a contract over the translation, by the program's plain functions.
  Conditions: the arguments are numbers of their kinds.
-/
import Derived.Test.YtlbhkmigbnhngaaCsrQ0
import Derived.Test.YtlbhkmigbnhngaaCsrQ70
import Derived.Test.YtlbhkmigbnhngaaCsrQ71
import Derived.Test.YtlbhkmigbnhngaaCsrQ72
import Derived.Test.YtlbhkmigbnhngaaCsrQ73
import Derived.Test.YtlbhkmigbnhngaaCsrQ74
import Derived.Test.YtlbhkmigbnhngaaCsrQ75
namespace Go.Proofs.Ytlbhkmigbnhngaa
open Go Go.RowKit Go.Maps W M D A C
set_option linter.unusedVariables false

theorem rDo_c (c : Cs) (hc : C.Good c) (p t o rd r r2 n ln b : Int) (hp : J64 p) (ht : B64 t) (ho : J64 o) (hr1 : J64 r) (hn : J64 n) (hb : B64 b) (w : World) :
    Calls Try.prog 21 #[vC c, .int .i64 p, .int .u64 t, .agg #[.int .i64 o, .int .i64 rd, .int .i64 r, .int .i64 r2, .int .i64 n, .int .i64 ln], .int .u64 b] w
      fun e w' => e = .returned (vD (C.doV c p t o r n b) (toldV c p t o r n) (okV c p o r n)) ∧ w.grownBy w' none := by
  by_cases h : 70 ≤ o ∧ o ≤ 75
  · have h6 : o = 70 ∨ o = 71 ∨ o = 72 ∨ o = 73 ∨ o = 74 ∨ o = 75 := by omega
    rcases h6 with rfl | rfl | rfl | rfl | rfl | rfl
    · exact rDo_70 c hc p t rd r r2 n ln b hp ht hr1 hn hb w
    · exact rDo_71 c hc p t rd r r2 n ln b hp ht hr1 hn hb w
    · exact rDo_72 c hc p t rd r r2 n ln b hp ht hr1 hn hb w
    · exact rDo_73 c hc p t rd r r2 n ln b hp ht hr1 hn hb w
    · exact rDo_74 c hc p t rd r r2 n ln b hp ht hr1 hn hb w
    · exact rDo_75 c hc p t rd r r2 n ln b hp ht hr1 hn hb w
  · exact rDo_none c hc p t o rd r r2 n ln b hp ht ho h hr1 hn hb w
end Go.Proofs.Ytlbhkmigbnhngaa
