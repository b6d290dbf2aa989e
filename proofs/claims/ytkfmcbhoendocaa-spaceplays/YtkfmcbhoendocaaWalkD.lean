/-
  What Walk of package walk answers: a contract over the program's translation.
  Conditions: the arguments are numbers of their kinds; memory stands behind its pointer.
-/
import Derived.Test.YtkfmcbhoendocaaWalkC
import Derived.Deep.RegionHeld3
namespace Go.Proofs.Ytkfmcbhoendocaa
open Go Go.RowKit W M D A C P K
set_option linter.unusedVariables false

/-- What stands while a walk goes on: the registers, an empty leaf, an empty fault; memory. -/
structure Frm (T : TypeId) (w : World) (b p g : Nat) (bs : List Int) (c : Cs) (wr : World) : Prop where
  csr : Row wr b 24 (lC c)
  leaf : Row wr (b + 1) 52 (lLeaf 0 0 false)
  flt : Row wr (b + 1 + 1) 48 (lFault false 0 0)
  mem : At T 5 wr p g bs
  gr : w.grownBy wr none
  sz : w.heap.size = b
section
variable {T : TypeId} {w wr ws : World} {b p g : Nat} {bs : List Int} {c : Cs}
theorem Frm.keep (h : Frm T w b p g bs c wr) (hg : wr.grownBy ws none) : Frm T w b p g bs c ws :=
  ⟨h.csr.grown hg (by simp), h.leaf.grown hg (by simp), h.flt.grown hg (by simp), h.mem.kept hg, gr_trans h.gr hg, h.sz⟩
theorem Frm.start (w : World) (hm : At T 5 w p g bs) : Frm T w w.heap.size p g bs c (((w.alloc (.cells (lC c).toArray 24)).alloc (.cells (lLeaf 0 0 false).toArray 52)).alloc (.cells (lFault false 0 0).toArray 48)) := by
  have a0 := Row.fresh w 24 (lC c)
  have a1 := Row.fresh (w.alloc (.cells (lC c).toArray 24)) 52 (lLeaf 0 0 false)
  have a2 := Row.fresh ((w.alloc (.cells (lC c).toArray 24)).alloc (.cells (lLeaf 0 0 false).toArray 52)) 48 (lFault false 0 0)
  rw [show (w.alloc (.cells (lC c).toArray 24)).heap.size = w.heap.size + 1 from Array.size_push ..] at a1
  rw [show ((w.alloc (.cells (lC c).toArray 24)).alloc (.cells (lLeaf 0 0 false).toArray 52)).heap.size = w.heap.size + 1 + 1 from by rw [show ((w.alloc (.cells (lC c).toArray 24)).alloc (.cells (lLeaf 0 0 false).toArray 52)).heap.size = (w.alloc (.cells (lC c).toArray 24)).heap.size + 1 from Array.size_push .., show (w.alloc (.cells (lC c).toArray 24)).heap.size = w.heap.size + 1 from Array.size_push ..]] at a2
  have hg := gr_alloc (gr_alloc (gr_alloc (gr_refl w none) (.cells (lC c).toArray 24)) (.cells (lLeaf 0 0 false).toArray 52)) (.cells (lFault false 0 0).toArray 48)
  exact ⟨(a0.alloc _).alloc _, a1.alloc _, a2, hm.kept hg, hg, rfl⟩
theorem Frm.facts (h : Frm T w b p g bs c wr) :
    (wr.cell? ⟨b + 1, 0, none⟩ = some (.int .u64 0) ∧ wr.cell? ⟨b + 1, 1, none⟩ = some (.int .i64 0) ∧ wr.cell? ⟨b + 1, 2, none⟩ = some (.bool false)) ∧
    (wr.cell? ⟨b + 1 + 1, 0, none⟩ = some (.bool false) ∧ wr.cell? ⟨b + 1 + 1, 1, none⟩ = some (.int .i64 0) ∧ wr.cell? ⟨b + 1 + 1, 2, none⟩ = some (.int .u64 0)) ∧
    (∀ i, wr.frozen? ⟨b + 1, i, none⟩ = false) ∧ (∀ i, wr.frozen? ⟨b + 1 + 1, i, none⟩ = false) ∧ b + 1 + 1 < wr.heap.size :=
  ⟨⟨h.leaf.cell 0, h.leaf.cell 1, h.leaf.cell 2⟩, ⟨h.flt.cell 0, h.flt.cell 1, h.flt.cell 2⟩, h.leaf.free, h.flt.free, h.flt.lt⟩
theorem Frm.done (h : Frm T w b p g bs c wr) (x y z u v t : Value) :
    Row ((((((wr.setCell ⟨b + 1, 0, none⟩ x).setCell ⟨b + 1, 1, none⟩ y).setCell ⟨b + 1, 2, none⟩ z).setCell ⟨b + 1 + 1, 0, none⟩ u).setCell ⟨b + 1 + 1, 1, none⟩ v).setCell ⟨b + 1 + 1, 2, none⟩ t) (b + 1) 52 [x, y, z] ∧
    Row ((((((wr.setCell ⟨b + 1, 0, none⟩ x).setCell ⟨b + 1, 1, none⟩ y).setCell ⟨b + 1, 2, none⟩ z).setCell ⟨b + 1 + 1, 0, none⟩ u).setCell ⟨b + 1 + 1, 1, none⟩ v).setCell ⟨b + 1 + 1, 2, none⟩ t) (b + 1 + 1) 48 [u, v, t] ∧
    w.grownBy ((((((wr.setCell ⟨b + 1, 0, none⟩ x).setCell ⟨b + 1, 1, none⟩ y).setCell ⟨b + 1, 2, none⟩ z).setCell ⟨b + 1 + 1, 0, none⟩ u).setCell ⟨b + 1 + 1, 1, none⟩ v).setCell ⟨b + 1 + 1, 2, none⟩ t) none := by
  have l := h.leaf
  have f := h.flt
  have s := h.sz
  exact ⟨oth3 (put3 l _ _ _) (by omega) _ _ _, put3 (oth3 f (by omega) _ _ _) _ _ _, gr3 (gr3 h.gr (by omega) _ _ _) (by omega) _ _ _⟩
end
/-- A leaf and a fault that are handed back out of variables. -/
theorem ret_LF {fn : Func} {p u : Tmp} (h : fn.results = #[.cell p 52, .cell u 48]) {R : Ending → World → Prop} {a : Act} {w : World} {g k : Nat} {e l : Int} {gl b : Bool} {c v : Int}
    (hp : a.tmps.getD p undef = .pointer (some ⟨g, 0, none⟩)) (hk : a.tmps.getD u undef = .pointer (some ⟨k, 0, none⟩)) (hd : a.defers = [])
    (hL : Row w g 52 (lLeaf e l gl)) (hF : Row w k 48 (lFault b c v)) (hQ : R (.returned (.tuple #[vLeaf e l gl, vFault b c v])) w) : bodyPost Try.prog fn R .ret a w := by
  refine bodyPost_ret (v := .tuple #[vLeaf e l gl, vFault b c v]) ?_ hd hQ
  have hp' : a.tmps[p]?.getD undef = .pointer (some ⟨g, 0, none⟩) := by simpa using hp
  have hk' : a.tmps[u]?.getD undef = .pointer (some ⟨k, 0, none⟩) := by simpa using hk
  have la : (loadVar 52 ⟨g, 0, none⟩).run Try.prog w = .ok (.agg (lLeaf e l gl).toArray) w := run_loadVar_row _ _ _ _ _ (0, 0) _ hL Try.underlying52 rfl (leaf_size e l gl)
  have lb : (loadVar 48 ⟨k, 0, none⟩).run Try.prog w = .ok (.agg (lFault b c v).toArray) w := run_loadVar_row _ _ _ _ _ (0, 0) _ hF Try.underlying48 rfl (fault_size b c v)
  simp [results, h, hp', hk', asAddr, la, lb, vLeaf, vFault, lLeaf, lFault]
end Go.Proofs.Ytkfmcbhoendocaa
