/-
  Two faults compared, two leaves compared: they are the same just if each of their parts is.
  Conditions: none.
-/
import Derived.Test.YtkfmcbhoendocaaWalkC
import Derived.Laws.StructEq
namespace Go.Proofs.Ytkfmcbhoendocaa
open Go Go.RowKit W M D A C P K
set_option linter.unusedVariables false
set_option maxRecDepth 100000

/-- One field more. -/
theorem fld_more {P : Program} {w : World} {d : Nat} {xs ys : Array Value} {f : Field} {fs : List Field} {a b : Value} {r q : Bool} (hn : f.name ≠ "_") (hx : (part f.type xs f.offset).run P w = .ok a w) (hy : (part f.type ys f.offset).run P w = .ok b w)
    (he : (Op.equalIn d f.type a b).run P w = .ok q w) (h : (Op.eqFields d xs ys fs).run P w = .ok r w) : (Op.eqFields d xs ys (f :: fs)).run P w = .ok (q && r) w := by
  rw [Op.eqFields, if_pos hn]
  simp only [Sem.run_bind, hx, hy, Result.andThen_ok, he]
  cases q
  · simp
  · simpa using h
theorem fields_F : (Try.prog.fieldsOf 48).toList = [(Try.prog.fieldsOf 48)[0]!, (Try.prog.fieldsOf 48)[1]!, (Try.prog.fieldsOf 48)[2]!] := by kernel_rfl
theorem equal_F (a1 b1 : Bool) (a2 a3 b2 b3 : Int) (w : World) :
    (Op.equalIn 10000 48 (vFault a1 a2 a3) (vFault b1 b2 b3)).run Try.prog w = .ok (a1 == b1 && (a2 == b2 && (a3 == b3 && true))) w := by
  unfold vFault
  rw [run_equalIn_agg _ 9999 _ _ _ (by kernel_rfl) (by kernel_rfl), fields_F]
  refine fld_more (d := 9999) (by decide +kernel) (by kernel_rfl) (by kernel_rfl) (run_equalIn_bool _ 9998 _ _ _ (by kernel_rfl)) ?_
  refine fld_more (d := 9999) (by decide +kernel) (by kernel_rfl) (by kernel_rfl) (run_equalIn_int _ 9998 _ .i64 .i64 _ _ (by kernel_rfl)) ?_
  refine fld_more (d := 9999) (by decide +kernel) (by kernel_rfl) (by kernel_rfl) (run_equalIn_int _ 9998 _ .u64 .u64 _ _ (by kernel_rfl)) ?_
  rfl
theorem fields_L : (Try.prog.fieldsOf 52).toList = [(Try.prog.fieldsOf 52)[0]!, (Try.prog.fieldsOf 52)[1]!, (Try.prog.fieldsOf 52)[2]!] := by kernel_rfl
theorem equal_L (a3 b3 : Bool) (a1 a2 b1 b2 : Int) (w : World) :
    (Op.equalIn 10000 52 (vLeaf a1 a2 a3) (vLeaf b1 b2 b3)).run Try.prog w = .ok (a1 == b1 && (a2 == b2 && (a3 == b3 && true))) w := by
  unfold vLeaf
  rw [run_equalIn_agg _ 9999 _ _ _ (by kernel_rfl) (by kernel_rfl), fields_L]
  refine fld_more (d := 9999) (by decide +kernel) (by kernel_rfl) (by kernel_rfl) (run_equalIn_int _ 9998 _ .u64 .u64 _ _ (by kernel_rfl)) ?_
  refine fld_more (d := 9999) (by decide +kernel) (by kernel_rfl) (by kernel_rfl) (run_equalIn_int _ 9998 _ .i64 .i64 _ _ (by kernel_rfl)) ?_
  refine fld_more (d := 9999) (by decide +kernel) (by kernel_rfl) (by kernel_rfl) (run_equalIn_bool _ 9998 _ _ _ (by kernel_rfl)) ?_
  rfl
/-- Two faults. -/
def sameF (a1 b1 : Bool) (a2 a3 b2 b3 : Int) : Bool := a1 == b1 && (a2 == b2 && (a3 == b3 && true))
theorem eql_F (a1 b1 : Bool) (a2 a3 b2 b3 : Int) (w : World) :
    (binOp .eql 48 (.agg #[.bool a1, .int .i64 a2, .int .u64 a3]) (.agg #[.bool b1, .int .i64 b2, .int .u64 b3])).run Try.prog w = .ok (.bool (sameF a1 b1 a2 a3 b2 b3)) w := by
  have h := equal_F a1 b1 a2 a3 b2 b3 w
  unfold vFault at h
  rw [run_eql_struct, h, Result.andThen_ok]
  rfl
theorem neq_F (a1 b1 : Bool) (a2 a3 b2 b3 : Int) (w : World) :
    (binOp .neq 48 (.agg #[.bool a1, .int .i64 a2, .int .u64 a3]) (.agg #[.bool b1, .int .i64 b2, .int .u64 b3])).run Try.prog w = .ok (.bool (!sameF a1 b1 a2 a3 b2 b3)) w := by
  have h := equal_F a1 b1 a2 a3 b2 b3 w
  unfold vFault at h
  rw [run_neq_struct, h, Result.andThen_ok]
  rfl
theorem sameF_self (a : Bool) (b c : Int) : sameF a a b c b c = true := by unfold sameF; simp
theorem sameF_dec (b c d : Int) : sameF true true b c d c = decide (b = d) := by unfold sameF; by_cases h : b = d <;> simp [h]
theorem eql_Fs (a : Bool) (b c : Int) (w : World) :
    (binOp .eql 48 (.agg #[.bool a, .int .i64 b, .int .u64 c]) (.agg #[.bool a, .int .i64 b, .int .u64 c])).run Try.prog w = .ok (.bool true) w := by
  rw [eql_F, sameF_self]
theorem neq_Fs (a : Bool) (b c : Int) (w : World) :
    (binOp .neq 48 (.agg #[.bool a, .int .i64 b, .int .u64 c]) (.agg #[.bool a, .int .i64 b, .int .u64 c])).run Try.prog w = .ok (.bool false) w := by
  rw [neq_F, sameF_self]; rfl
theorem eql_Ls (a b : Int) (c : Bool) (w : World) :
    (binOp .eql 52 (.agg #[.int .u64 a, .int .i64 b, .bool c]) (.agg #[.int .u64 a, .int .i64 b, .bool c])).run Try.prog w = .ok (.bool true) w := by
  have h := equal_L c c a b a b w
  unfold vLeaf at h
  rw [run_eql_struct, h, Result.andThen_ok]
  simp
end Go.Proofs.Ytkfmcbhoendocaa
