/-
  What the laws of layer 9 need besides: a row of twelve numbers that are such, the five cells of a try.
  Conditions: none.
-/
import Derived.Test.YtkfmcbhoendocaaDoorCsrEq
namespace Go.Proofs.YtkfmcbhoendocaaDoor
open Go Go.RowKit Go.Maps W M D A C
set_option linter.unusedVariables false

theorem good12 {a0 a1 a2 a3 a4 a5 a6 a7 a8 a9 a10 a11 : Int} (h0 : B64 a0) (h1 : B64 a1) (h2 : B64 a2) (h3 : B64 a3) (h4 : B64 a4) (h5 : B64 a5) (h6 : B64 a6) (h7 : B64 a7) (h8 : B64 a8) (h9 : B64 a9) (h10 : B64 a10) (h11 : B64 a11) :
    C.Good [a0, a1, a2, a3, a4, a5, a6, a7, a8, a9, a10, a11] := by
  refine ⟨rfl, fun x hx => ?_⟩
  simp only [List.mem_cons, List.not_mem_nil, or_false] at hx
  rcases hx with rfl | rfl | rfl | rfl | rfl | rfl | rfl | rfl | rfl | rfl | rfl | rfl <;> assumption
theorem cells5 {w : World} {g : Nat} {t : TypeId} {v0 v1 v2 v3 v4 : Value} (h : Row w g t [v0, v1, v2, v3, v4]) :
    w.cell? ⟨g, 0, none⟩ = some v0 ∧ w.cell? ⟨g, 1, none⟩ = some v1 ∧ w.cell? ⟨g, 2, none⟩ = some v2 ∧ w.cell? ⟨g, 3, none⟩ = some v3 ∧ w.cell? ⟨g, 4, none⟩ = some v4 := ⟨h.cell 0, h.cell 1, h.cell 2, h.cell 3, h.cell 4⟩
theorem cells6 {w : World} {g : Nat} {t : TypeId} {v0 v1 v2 v3 v4 v5 : Value} (h : Row w g t [v0, v1, v2, v3, v4, v5]) :
    w.cell? ⟨g, 0, none⟩ = some v0 ∧ w.cell? ⟨g, 1, none⟩ = some v1 ∧ w.cell? ⟨g, 2, none⟩ = some v2 ∧ w.cell? ⟨g, 3, none⟩ = some v3 ∧ w.cell? ⟨g, 4, none⟩ = some v4 ∧ w.cell? ⟨g, 5, none⟩ = some v5 := ⟨h.cell 0, h.cell 1, h.cell 2, h.cell 3, h.cell 4, h.cell 5⟩
theorem freshB (w : World) (o : Obj) (t : TypeId) (l : List Value) : Row ((w.alloc o).alloc (.cells l.toArray t)) (w.heap.size + 1) t l := by
  have := Row.fresh (w.alloc o) t l
  simpa using this
end Go.Proofs.YtkfmcbhoendocaaDoor
