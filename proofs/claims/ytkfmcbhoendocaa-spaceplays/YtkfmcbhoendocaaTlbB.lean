/-
  The builtins min and max of two numbers, in one way.
  Conditions: none.
-/
import Derived.Test.YtkfmcbhoendocaaTlbP
namespace Go.Proofs.Ytkfmcbhoendocaa
open Go Go.RowKit W M D A C P K
set_option linter.unusedVariables false
set_option linter.unusedSimpArgs false

theorem run_max (a b : Int) (ty : TypeId) (cs : Array Bool) (w : World) : (builtin .max #[3, 3] ty cs #[.int .i64 a, .int .i64 b]).run Try.prog w = .ok (.value (.int .i64 (max a b))) w := by
  have hu := Try.underlying3
  by_cases h : a ≤ b
  · rw [Int.max_eq_right h]
    simp [builtin, go_sem, h]
    try (intro h2; omega)
  · rw [Int.max_eq_left (by omega)]
    simp [builtin, go_sem, h]
    try omega
theorem run_min (a b : Int) (ty : TypeId) (cs : Array Bool) (w : World) : (builtin .min #[3, 3] ty cs #[.int .i64 a, .int .i64 b]).run Try.prog w = .ok (.value (.int .i64 (min a b))) w := by
  have hu := Try.underlying3
  by_cases h : a ≤ b
  · rw [Int.min_eq_left h]
    simp [builtin, go_sem, h]
    try (intro h2; omega)
  · rw [Int.min_eq_right (by omega)]
    simp [builtin, go_sem, h]
    try omega
theorem wpList_bi_eq {P : Program} {w : World} {ops : Array Oper} {rest : List Oper} {o : Oper} {a : Act} {Q : Exit → Act → World → Prop} (hg : o.guard = none) (b : Builtin) (s x : Operand) (t : TypeId)
    (hop : o.op = Op.call { callee := Callee.builtin b, args := #[s, x], argTypes := #[t, t] }) {v : Value} (hrun : ∀ cs, (builtin b #[t, t] o.type cs #[a.eval s, a.eval x]).run P w = .ok (.value v) w)
    (hK : wpList P ops Q rest (a.put o.dst v) w) : wpList P ops Q (o :: rest) a w := by
  refine wpList_plain hg fun K hK' => ?_
  unfold Oper.wp
  simp [execOp, hop, resolve, invoke, hrun, Result.andThen]
  exact hK' _ _ hK
end Go.Proofs.Ytkfmcbhoendocaa
