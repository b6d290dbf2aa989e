/-
  What package walk's functions answer: contracts over the program's translation.
  Conditions: the arguments are numbers of their kinds; memory stands behind its pointer.
-/
import Derived.Test.YtkfmcbhoendocaaLayPt
import Derived.Test.YtkfmcbhoendocaaRamC
import Derived.Test.YtkfmcbhoendocaaCsrG
import Derived.Test.YtkfmcbhoendocaaLayK
namespace Go.Proofs.Ytkfmcbhoendocaa
open Go Go.RowKit W M D A C P K
set_option linter.unusedVariables false

def vLeaf (e l : Int) (g : Bool) : Value := .agg #[.int .u64 e, .int .i64 l, .bool g]
def vFault (b : Bool) (c v : Int) : Value := .agg #[.bool b, .int .i64 c, .int .u64 v]
def lLeaf (e l : Int) (g : Bool) : List Value := [.int .u64 e, .int .i64 l, .bool g]
def lFault (b : Bool) (c v : Int) : List Value := [.bool b, .int .i64 c, .int .u64 v]
def vL (r : Wr) : Value := vLeaf r.pte r.lvl r.glob
def vF (r : Wr) : Value := vFault r.isf r.cause r.val
theorem leaf_size (e l : Int) (g : Bool) : (Try.prog.info? 52).map (·.size) = some (lLeaf e l g).toArray.size := by
  unfold lLeaf; kernel_rfl
theorem fault_size (b : Bool) (c v : Int) : (Try.prog.info? 48).map (·.size) = some (lFault b c v).toArray.size := by
  unfold lFault; kernel_rfl
/-- A fault that is handed back out of a variable. -/
theorem ret_F {fn : Func} {p : Tmp} (h : fn.results = #[.cell p 48]) {R : Ending → World → Prop} {a : Act} {w : World} {g : Nat} {b : Bool} {c v : Int}
    (hp : a.tmps.getD p undef = .pointer (some ⟨g, 0, none⟩)) (hd : a.defers = []) (hR : Row w g 48 (lFault b c v)) (hQ : R (.returned (vFault b c v)) w) :
    bodyPost Try.prog fn R .ret a w :=
  bodyPost_ret (results_cell_row h _ w g _ (lFault b c v).toArray (0, 0) _ hp hR Try.underlying48 rfl (fault_size b c v)) hd hQ
/-- Three cells of a row written one after the other. -/
theorem put3 {w : World} {g : Nat} {t : TypeId} {x y z : Value} (h : Row w g t [x, y, z]) (a0 a1 a2 : Value) : Row (((w.setCell ⟨g, 0, none⟩ a0).setCell ⟨g, 1, none⟩ a1).setCell ⟨g, 2, none⟩ a2) g t [a0, a1, a2] :=
  ((h.put 0 a0).put 1 a1).put 2 a2
theorem oth3 {w : World} {g g' : Nat} {t : TypeId} {l : List Value} (h : Row w g' t l) (hn : g' ≠ g) (a0 a1 a2 : Value) : Row (((w.setCell ⟨g, 0, none⟩ a0).setCell ⟨g, 1, none⟩ a1).setCell ⟨g, 2, none⟩ a2) g' t l :=
  ((h.other hn _).other hn _).other hn _
theorem gr3 {w0 w : World} {g : Nat} (h : w0.grownBy w none) (hg : w0.heap.size ≤ g) (a0 a1 a2 : Value) : w0.grownBy (((w.setCell ⟨g, 0, none⟩ a0).setCell ⟨g, 1, none⟩ a1).setCell ⟨g, 2, none⟩ a2) none :=
  gr_row (gr_set (gr_set (gr_set (gr_none h _) _) _) _) hg

theorem wKind_c (k a b c : Int) (hk : I64 k) (w : World) :
    Calls Try.prog 89 #[.int .i64 k, .int .i64 a, .int .i64 b, .int .i64 c] w fun e w' => e = .returned (.int .i64 (causeV k a b c)) ∧ w = w' := by
  unfold I64 at hk
  unfold causeV
  by_cases h0 : k = 0
  · subst h0
    go_enter Try.func89, Try.ntmps89
    go_wp2_with fail
    go_ret
    exact ⟨rfl, rfl⟩
  · by_cases h2 : k = 2
    · subst h2
      go_enter Try.func89, Try.ntmps89
      go_wp2_with fail
      go_ret
      exact ⟨rfl, rfl⟩
    · rw [if_neg h0, if_neg h2]
      have d0 : (k == 0) = false := by simpa using h0
      have d2 : (k == 2) = false := by simpa using h2
      clear h0 h2
      go_enter Try.func89, Try.ntmps89
      go_wp2_with fail
      go_ret
      exact ⟨rfl, rfl⟩
theorem PageFault_c (k va : Int) (hk : I64 k) (w : World) :
    Calls Try.prog 55 #[.int .i64 k, .int .u64 va] w fun e w' => e = .returned (vFault true (pfC k) va) ∧ w.grownBy w' none := by
  have C := Lib.hid (fun W => wKind_c k 12 13 15 hk W)
  go_enter Try.func55, Try.ntmps55
  go_wp2_with fail
  refine (C.out _).mono ?_
  rintro r w' ⟨rfl, rfl⟩
  go_wp2_with fail
  exact ret_F rfl rfl rfl (Row.fresh w 48 (lFault true (pfC k) va)) ⟨rfl, gr_alloc (gr_refl _ _) _⟩
theorem NoAddress_c (k va : Int) (hk : I64 k) (w : World) :
    Calls Try.prog 80 #[.int .i64 k, .int .u64 va] w fun e w' => e = .returned (vFault true (naC k) va) ∧ w.grownBy w' none := by
  have C := Lib.hid (fun W => wKind_c k 1 5 7 hk W)
  go_enter Try.func80, Try.ntmps80
  go_wp2_with fail
  refine (C.out _).mono ?_
  rintro r w' ⟨rfl, rfl⟩
  go_wp2_with fail
  exact ret_F rfl rfl rfl (Row.fresh w 48 (lFault true (naC k) va)) ⟨rfl, gr_alloc (gr_refl _ _) _⟩
theorem Paged_c (c : Cs) (hc : C.Good c) (w : World) :
    Calls Try.prog 53 #[vC c] w fun e w' => e = .returned (.bool (pagedV (gC c 9))) ∧ w.grownBy w' none := by
  have h9 := hc.get 9
  obtain ⟨a0, a1, a2, a3, a4, a5, a6, a7, a8, a9, a10, a11, rfl⟩ := twelve hc.1
  have h9 : B64 a9 := h9
  have e9 : pagedV (gC [a0, a1, a2, a3, a4, a5, a6, a7, a8, a9, a10, a11] 9) = decide (a9 / 1152921504606846976 = 8) := rfl
  rw [e9]
  unfold vC lC
  simp only [List.map_cons, List.map_nil]
  clear hc e9
  unfold B64 at h9
  go_enter Try.func53, Try.ntmps53
  go_wp2_with fail
  go_ret
  exact ⟨ret_boo (by rw [Bool.eq_iff_iff]; simp), gr_alloc (gr_refl _ _) _⟩
end Go.Proofs.Ytkfmcbhoendocaa
