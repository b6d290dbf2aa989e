/-
  Two instructions compared: they are the same just if each of their six numbers is.
  Conditions: none.
-/
import Derived.Test.YtpbeamnogfjagaaGreatDoorEncD
namespace Go.Proofs.YtpbeamnogfjagaaGreatDoor.E
open Go Go.RowKit Go.Maps F W M D
set_option linter.unusedVariables false
set_option maxRecDepth 100000

/-- One field more. -/
theorem fld_step {P : Program} {w : World} {d : Nat} {xs ys : Array Value} {f : Field} {fs : List Field} {a b : Int} {r : Bool} (hn : f.name ≠ "_") (hx : (part f.type xs f.offset).run P w = .ok (.int .i64 a) w) (hy : (part f.type ys f.offset).run P w = .ok (.int .i64 b) w)
    (ht : P.underlying f.type = some (.int .i64)) (h : (Op.eqFields (d + 1) xs ys fs).run P w = .ok r w) : (Op.eqFields (d + 1) xs ys (f :: fs)).run P w = .ok (a == b && r) w := by
  rw [Op.eqFields, if_pos hn]
  simp only [Sem.run_bind, hx, hy, Result.andThen_ok, run_equalIn_int w d f.type .i64 .i64 a b ht]
  cases hab : (a == b)
  · simp
  · simpa using h
theorem fields_eq : (Tryz.prog.fieldsOf 23).toList = [(Tryz.prog.fieldsOf 23)[0]!, (Tryz.prog.fieldsOf 23)[1]!, (Tryz.prog.fieldsOf 23)[2]!, (Tryz.prog.fieldsOf 23)[3]!, (Tryz.prog.fieldsOf 23)[4]!, (Tryz.prog.fieldsOf 23)[5]!] := by kernel_rfl
theorem equal_run (a1 a2 a3 a4 a5 a6 b1 b2 b3 b4 b5 b6 : Int) (w : World) :
    (Op.equalIn 10000 23 (six a1 a2 a3 a4 a5 a6) (six b1 b2 b3 b4 b5 b6)).run Tryz.prog w = .ok (a1 == b1 && (a2 == b2 && (a3 == b3 && (a4 == b4 && (a5 == b5 && (a6 == b6 && true)))))) w := by
  rw [run_equalIn_agg w 9999 _ _ _ (by kernel_rfl) (by kernel_rfl), fields_eq]
  refine fld_step (d := 9998) (by decide +kernel) (by kernel_rfl) (by kernel_rfl) (by kernel_rfl) ?_
  refine fld_step (d := 9998) (by decide +kernel) (by kernel_rfl) (by kernel_rfl) (by kernel_rfl) ?_
  refine fld_step (d := 9998) (by decide +kernel) (by kernel_rfl) (by kernel_rfl) (by kernel_rfl) ?_
  refine fld_step (d := 9998) (by decide +kernel) (by kernel_rfl) (by kernel_rfl) (by kernel_rfl) ?_
  refine fld_step (d := 9998) (by decide +kernel) (by kernel_rfl) (by kernel_rfl) (by kernel_rfl) ?_
  refine fld_step (d := 9998) (by decide +kernel) (by kernel_rfl) (by kernel_rfl) (by kernel_rfl) ?_
  rfl
/-- Whether two instructions are the same. -/
def same6 (a1 a2 a3 a4 a5 a6 b1 b2 b3 b4 b5 b6 : Int) : Bool := decide (a1 = b1 ∧ a2 = b2 ∧ a3 = b3 ∧ a4 = b4 ∧ a5 = b5 ∧ a6 = b6)
theorem eql_run (a1 a2 a3 a4 a5 a6 b1 b2 b3 b4 b5 b6 : Int) (w : World) :
    (binOp .eql 23 (six a1 a2 a3 a4 a5 a6) (six b1 b2 b3 b4 b5 b6)).run Tryz.prog w = .ok (.bool (same6 a1 a2 a3 a4 a5 a6 b1 b2 b3 b4 b5 b6)) w := by
  rw [run_eql_struct, equal_run, Result.andThen_ok, same6]
  congr 2
  simp [Bool.decide_and]
  rfl
theorem neq_run (a1 a2 a3 a4 a5 a6 b1 b2 b3 b4 b5 b6 : Int) (w : World) :
    (binOp .neq 23 (six a1 a2 a3 a4 a5 a6) (six b1 b2 b3 b4 b5 b6)).run Tryz.prog w = .ok (.bool (!same6 a1 a2 a3 a4 a5 a6 b1 b2 b3 b4 b5 b6)) w := by
  rw [run_neq_struct, equal_run, Result.andThen_ok, same6]
  congr 2
  simp [Bool.decide_and]
  rfl
theorem same6_no {a1 a2 a3 a4 a5 a6 b1 b2 b3 b4 b5 b6 : Int} (h : ¬ (a1 = b1 ∧ a2 = b2 ∧ a3 = b3 ∧ a4 = b4 ∧ a5 = b5 ∧ a6 = b6)) : same6 a1 a2 a3 a4 a5 a6 b1 b2 b3 b4 b5 b6 = false := decide_eq_false h
theorem same6_yes {a1 a2 a3 a4 a5 a6 b1 b2 b3 b4 b5 b6 : Int} (h : a1 = b1 ∧ a2 = b2 ∧ a3 = b3 ∧ a4 = b4 ∧ a5 = b5 ∧ a6 = b6) : same6 a1 a2 a3 a4 a5 a6 b1 b2 b3 b4 b5 b6 = true := decide_eq_true h
theorem neq_yes {a1 a2 a3 a4 a5 a6 b1 b2 b3 b4 b5 b6 : Int} (h : ¬ (a1 = b1 ∧ a2 = b2 ∧ a3 = b3 ∧ a4 = b4 ∧ a5 = b5 ∧ a6 = b6)) (w : World) :
    (binOp .neq 23 (.agg #[.int .i64 a1, .int .i64 a2, .int .i64 a3, .int .i64 a4, .int .i64 a5, .int .i64 a6]) (.agg #[.int .i64 b1, .int .i64 b2, .int .i64 b3, .int .i64 b4, .int .i64 b5, .int .i64 b6])).run Tryz.prog w = .ok (.bool true) w := by
  have := neq_run a1 a2 a3 a4 a5 a6 b1 b2 b3 b4 b5 b6 w
  rw [same6_no h] at this
  exact this
end Go.Proofs.YtpbeamnogfjagaaGreatDoor.E
