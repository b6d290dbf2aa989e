/-
  What stands while a statement of layer 12 goes on, on: a number that is written into memory; a second row of leaves; a variable in a block of its own.
  Conditions: none beyond the translation.
-/
import Derived.Test.YtkfmcbhoendocaaTlbL
namespace Go.Proofs.Ytkfmcbhoendocaa
open Go Go.RowKit W M D A C P K
set_option linter.unusedVariables false

theorem fresh_two (w : World) (o : Obj) (t : TypeId) (l : List Value) : Row ((w.alloc o).alloc (.cells l.toArray t)) (w.heap.size + 1) t l := by
  have := Row.fresh (w.alloc o) t l
  rw [show (w.alloc o).heap.size = w.heap.size + 1 from Array.size_push ..] at this
  exact this
section
variable {w wr ws : World} {T0 : TypeId} {t pm gm p most : Nat} {l : List Value} {bs bs' : List Int} {v : Value} {n n' : Int} {L L' : List T.Lf}
/-- A number is written into memory. -/
theorem Lt.put (h : Lt w T0 t l pm gm bs p most v n L wr) (hg : w.heap.size ≤ gm) (h1 : T0 ≠ 5) (hm : RAt ws pm gm bs') (hG : wr.grownBy ws (some gm)) : Lt w T0 t l pm gm bs' p most v n L ws := by
  have a1 := h.opr.apart h.mem.row h1
  have a2 := h.row.ptr.apart h.mem.row (by decide)
  have a3 := h.row.arr.ne h.mem.row (by decide)
  refine ⟨h.opr.grown hG (some_ne a1), hm, ⟨h.row.ptr.grown hG (some_ne a2), h.row.arr.keep hG ?_, h.row.fine, h.row.le, h.row.most, h.row.own, h.row.num⟩, gr_row (gr_trans (gr_none h.gr _) hG) hg⟩
  rcases hv : v.ownBlock with _ | g'
  · exact .inl rfl
  · right
    rw [hv] at a3
    exact fun e => a3 e.symm
end
end Go.Proofs.Ytkfmcbhoendocaa
