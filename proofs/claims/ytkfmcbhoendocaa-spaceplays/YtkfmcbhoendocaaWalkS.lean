/-
  A number and a fault that are handed back; what stands while To goes on.
  Conditions: the arguments are numbers of their kinds; memory stands behind its pointer.
-/
import Derived.Test.YtkfmcbhoendocaaWalkD
import Derived.Test.YtkfmcbhoendocaaLayK
namespace Go.Proofs.Ytkfmcbhoendocaa
open Go Go.RowKit W M D A C P K
set_option linter.unusedVariables false

/-- A number and a fault: the second handed back out of a variable. -/
theorem ret_IF {fn : Func} {p u : Tmp} (h : fn.results = #[.tmp p, .cell u 48]) {R : Ending → World → Prop} {a : Act} {w : World} {k : Nat} {x : Value} {b : Bool} {c v : Int}
    (hp : a.tmps.getD p undef = x) (hk : a.tmps.getD u undef = .pointer (some ⟨k, 0, none⟩)) (hd : a.defers = [])
    (hF : Row w k 48 (lFault b c v)) (hQ : R (.returned (.tuple #[x, vFault b c v])) w) : bodyPost Try.prog fn R .ret a w := by
  refine bodyPost_ret (v := .tuple #[x, vFault b c v]) ?_ hd hQ
  have hp' : a.tmps[p]?.getD undef = x := by simpa using hp
  have hk' : a.tmps[u]?.getD undef = .pointer (some ⟨k, 0, none⟩) := by simpa using hk
  have lb : (loadVar 48 ⟨k, 0, none⟩).run Try.prog w = .ok (.agg (lFault b c v).toArray) w := run_loadVar_row _ _ _ _ _ (0, 0) _ hF Try.underlying48 rfl (fault_size b c v)
  simp [results, h, hp', hk', asAddr, lb, vFault, lFault]
/-- What stands while To goes on: the registers, an empty fault; memory. -/
structure Gap (T : TypeId) (w : World) (b p g : Nat) (bs : List Int) (c : Cs) (wr : World) : Prop where
  csr : Row wr b 24 (lC c)
  flt : Row wr (b + 1) 48 (lFault false 0 0)
  mem : At T 5 wr p g bs
  gr : w.grownBy wr none
  sz : w.heap.size = b
section
variable {T : TypeId} {w wr ws : World} {b p g : Nat} {bs : List Int} {c : Cs}
theorem Gap.keep (h : Gap T w b p g bs c wr) (hg : wr.grownBy ws none) : Gap T w b p g bs c ws :=
  ⟨h.csr.grown hg (by simp), h.flt.grown hg (by simp), h.mem.kept hg, gr_trans h.gr hg, h.sz⟩
theorem Gap.start (w : World) (hm : At T 5 w p g bs) : Gap T w w.heap.size p g bs c ((w.alloc (.cells (lC c).toArray 24)).alloc (.cells (lFault false 0 0).toArray 48)) := by
  have a0 := Row.fresh w 24 (lC c)
  have a1 := Row.fresh (w.alloc (.cells (lC c).toArray 24)) 48 (lFault false 0 0)
  rw [show (w.alloc (.cells (lC c).toArray 24)).heap.size = w.heap.size + 1 from Array.size_push ..] at a1
  have hg := gr_alloc (gr_alloc (gr_refl w none) (.cells (lC c).toArray 24)) (.cells (lFault false 0 0).toArray 48)
  exact ⟨a0.alloc _, a1, hm.kept hg, hg, rfl⟩
theorem Gap.facts (h : Gap T w b p g bs c wr) :
    (wr.cell? ⟨b + 1, 0, none⟩ = some (.bool false) ∧ wr.cell? ⟨b + 1, 1, none⟩ = some (.int .i64 0) ∧ wr.cell? ⟨b + 1, 2, none⟩ = some (.int .u64 0)) ∧
    (∀ i, wr.frozen? ⟨b + 1, i, none⟩ = false) ∧ b + 1 < wr.heap.size :=
  ⟨⟨h.flt.cell 0, h.flt.cell 1, h.flt.cell 2⟩, h.flt.free, h.flt.lt⟩
theorem Gap.done (h : Gap T w b p g bs c wr) (u v t : Value) :
    Row (((wr.setCell ⟨b + 1, 0, none⟩ u).setCell ⟨b + 1, 1, none⟩ v).setCell ⟨b + 1, 2, none⟩ t) (b + 1) 48 [u, v, t] ∧
    w.grownBy (((wr.setCell ⟨b + 1, 0, none⟩ u).setCell ⟨b + 1, 1, none⟩ v).setCell ⟨b + 1, 2, none⟩ t) none := by
  have s := h.sz
  exact ⟨put3 h.flt _ _ _, gr3 h.gr (by omega) _ _ _⟩
end
end Go.Proofs.Ytkfmcbhoendocaa
