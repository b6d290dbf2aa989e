/-
  Enter and Back of package trap over twelve letters.
  Conditions: the arguments are numbers of their kinds.
-/
import Derived.Test.YtkfmcbhoendocaaDoorTrLw
import Derived.Test.YtkfmcbhoendocaaDoorTrW
namespace Go.Proofs.YtkfmcbhoendocaaDoor
open Go Go.RowKit Go.Maps W M D A C J
set_option linter.unusedVariables false

theorem back12 {a0 a1 a2 a3 a4 a5 a6 a7 a8 a9 a10 a11 : Int} (hc : C.Good [a0, a1, a2, a3, a4, a5, a6, a7, a8, a9, a10, a11]) (w : World) :
    Calls Tryd.prog 9 #[.agg #[.int .u64 a0, .int .u64 a1, .int .u64 a2, .int .u64 a3, .int .u64 a4, .int .u64 a5, .int .u64 a6, .int .u64 a7, .int .u64 a8, .int .u64 a9, .int .u64 a10, .int .u64 a11]] w fun e w' => e = .returned (.tuple #[.agg #[.int .u64 (leftV a0), .int .u64 a1, .int .u64 a2, .int .u64 a3, .int .u64 a4, .int .u64 a5, .int .u64 a6, .int .u64 a7, .int .u64 a8, .int .u64 a9, .int .u64 a10, .int .u64 a11], .int .u64 a5, .int .i64 (privV a0)]) ∧ w.grownBy w' none := Back_c _ hc w
theorem enter12 {a0 a1 a2 a3 a4 a5 a6 a7 a8 a9 a10 a11 : Int} (hc : C.Good [a0, a1, a2, a3, a4, a5, a6, a7, a8, a9, a10, a11]) (p pc : Int) (i : Bool) (kk v : Int) (hp : -9223372036854775808 ≤ p ∧ p ≤ 9223372036854775807) (hpc : B64 pc) (hk : -9223372036854775808 ≤ kk ∧ kk ≤ 9223372036854775807) (hv : B64 v) (w : World) :
    Calls Tryd.prog 7 #[.agg #[.int .u64 a0, .int .u64 a1, .int .u64 a2, .int .u64 a3, .int .u64 a4, .int .u64 a5, .int .u64 a6, .int .u64 a7, .int .u64 a8, .int .u64 a9, .int .u64 a10, .int .u64 a11], .int .i64 p, .int .u64 pc, .bool i, .int .i64 kk, .int .u64 v] w fun e w' => e = .returned (.tuple #[.agg #[.int .u64 (entV a0 p), .int .u64 a1, .int .u64 a2, .int .u64 a3, .int .u64 a4, .int .u64 (epcV pc), .int .u64 (causeV i kk), .int .u64 v, .int .u64 a8, .int .u64 a9, .int .u64 a10, .int .u64 a11], .int .u64 (handV a2 i kk)]) ∧ w.grownBy w' none := Enter_c _ hc p pc i kk v hp hpc hk hv w
end Go.Proofs.YtkfmcbhoendocaaDoor
