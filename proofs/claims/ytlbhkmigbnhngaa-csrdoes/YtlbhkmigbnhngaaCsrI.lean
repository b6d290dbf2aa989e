/-
  The table of package csr's instructions, whose functions hold no variable: a contract over the program's translation.
  Conditions: none.
-/
import Derived.Test.YtlbhkmigbnhngaaCsrT
namespace Go.Proofs.Ytlbhkmigbnhngaa
open Go Go.RowKit Go.Maps W M D A C
set_option linter.unusedVariables false


def IsInsA (w : World) (v : Value) (x : (Int → Int → Int) × Bool × Bool) : Prop := ∃ p, v = .agg #[p, .bool x.2.1, .bool x.2.2] ∧ ∀ W, Does W p x.1
/-- What is found, or not, in the table of instructions, in any world that has grown. -/
theorem look_insA {w : World} {m : Value} (h : TabF (IsInsA w) w m tI) (o : Int) (ho : -9223372036854775808 ≤ o ∧ o ≤ 9223372036854775807) :
    ∃ pf x y ok, (∀ W, w.grownBy W none → (Instr.lookup 62 m (.int .i64 o) true).run Try.prog W = .ok (.tuple #[.agg #[pf, .bool x, .bool y], .bool ok]) W) ∧ pf.oneCell' = true ∧
      ((ok = false ∧ A.look tI o = none ∧ x = false) ∨ (ok = true ∧ ∃ f, A.look tI o = some (f, x, y) ∧ ∀ W, Does W pf f)) := by
  obtain ⟨b, n, L, rfl, hO, hf⟩ := h
  rcases hf.look o with ⟨e1, e2⟩ | ⟨v, ⟨f, x, y⟩, e1, e2, ⟨p, rfl, hD⟩⟩
  · refine ⟨.nilFunc, false, false, false, fun W hW => ?_, rfl, Or.inl ⟨rfl, e2, rfl⟩⟩
    have hr := own_look Try.underlying62 (zeroI W) (hO.kept hW (by simp)) o ho
    rw [e1] at hr
    exact hr
  · have hq := hD w
    obtain ⟨k, cap, rfl, _⟩ := hq
    refine ⟨_, x, y, true, fun W hW => ?_, rfl, Or.inr ⟨rfl, f, e2, hD⟩⟩
    have hr := own_look Try.underlying62 (zeroI W) (hO.kept hW (by simp)) o ho
    rw [e1] at hr
    exact hr
set_option maxHeartbeats 1000000 in
theorem instrA_c (w : World) : Calls Try.prog 24 #[] w (GivesM IsInsA w tI) := by
  have hmm := @run_makeMap Try.prog
  have o0 := World.ownsMap_made w Try.prog 3 anyElem
  have z0 := gr_alloc (gr_refl w (some w.heap.size)) (.map #[] 0)
  obtain ⟨w1, r1, o1, g1, c1⟩ := updF Try.underlying62 o0 (by decide) 70 (by decide) (.agg #[(.func (.func 45) #[] #[]), .bool true, .bool false])
  have z1 := gr_trans z0 g1
  obtain ⟨w2, r2, o2, g2, c2⟩ := updF Try.underlying62 o1 (by decide) 71 (by decide) (.agg #[(.func (.func 46) #[] #[]), .bool false, .bool false])
  have z2 := gr_trans z1 g2
  obtain ⟨w3, r3, o3, g3, c3⟩ := updF Try.underlying62 o2 (by decide) 72 (by decide) (.agg #[(.func (.func 47) #[] #[]), .bool false, .bool false])
  have z3 := gr_trans z2 g3
  obtain ⟨w4, r4, o4, g4, c4⟩ := updF Try.underlying62 o3 (by decide) 73 (by decide) (.agg #[(.func (.func 45) #[] #[]), .bool true, .bool true])
  have z4 := gr_trans z3 g4
  obtain ⟨w5, r5, o5, g5, c5⟩ := updF Try.underlying62 o4 (by decide) 74 (by decide) (.agg #[(.func (.func 46) #[] #[]), .bool false, .bool true])
  have z5 := gr_trans z4 g5
  obtain ⟨w6, r6, o6, g6, c6⟩ := updF Try.underlying62 o5 (by decide) 75 (by decide) (.agg #[(.func (.func 47) #[] #[]), .bool false, .bool true])
  have z6 := gr_trans z5 g6
  go_enter Try.func24, Try.ntmps24
  go_wp2_with fail
  go_ret
  exact ⟨_, rfl, ⟨_, _, [(75, (.agg #[(.func (.func 47) #[] #[]), .bool false, .bool true])), (74, (.agg #[(.func (.func 46) #[] #[]), .bool false, .bool true])), (73, (.agg #[(.func (.func 45) #[] #[]), .bool true, .bool true])), (72, (.agg #[(.func (.func 47) #[] #[]), .bool false, .bool false])), (71, (.agg #[(.func (.func 46) #[] #[]), .bool false, .bool false])), (70, (.agg #[(.func (.func 45) #[] #[]), .bool true, .bool false]))], rfl, o6, ⟨rfl, ⟨_, rfl, drop_d⟩, ⟨rfl, ⟨_, rfl, set_d⟩, ⟨rfl, ⟨_, rfl, swap_d⟩, ⟨rfl, ⟨_, rfl, drop_d⟩, ⟨rfl, ⟨_, rfl, set_d⟩, ⟨rfl, ⟨_, rfl, swap_d⟩, trivial⟩⟩⟩⟩⟩⟩⟩, gr_row z6 (Nat.le_refl _)⟩
end Go.Proofs.Ytlbhkmigbnhngaa
