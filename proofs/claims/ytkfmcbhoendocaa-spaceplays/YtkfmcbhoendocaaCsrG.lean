/-
  A row of twelve numbers in memory; functions that a table holds: what is asked of them.
  Conditions: none beyond the translation.
-/
import Derived.Test.YtkfmcbhoendocaaProg
import Derived.Test.YtkfmcbhoendocaaCsrV
import Derived.Test.YtkfmcbhoendocaaRamM
import Derived.Lib.Hide
import Derived.Deep.QuietTactic
import Derived.BigQuiet
import Derived.Laws.EntriesVeiled
namespace Go.Proofs.Ytkfmcbhoendocaa
open Go Go.RowKit W M D A C
set_option linter.unusedVariables false

theorem ret_int {k : IntKind} {a b : Int} (h : a = b) : Ending.returned (.int k a) = .returned (.int k b) := by rw [h]
theorem ret_boo {a b : Bool} (h : a = b) : Ending.returned (.bool a) = .returned (.bool b) := by rw [h]
theorem still {f : FuncId} {args : Array Value} {w : World} {v : Value} (h : Calls Try.prog f args w fun e w' => e = .returned v ∧ w = w') : Calls Try.prog f args w fun e w' => e = .returned v ∧ w.grownBy w' none :=
  h.mono fun _ _ ⟨he, hw⟩ => ⟨he, hw ▸ gr_refl _ _⟩
/-- Every row of cells that stood stands. -/
def Cel (w w' : World) : Prop := ∀ g t l, Row w g t l → Row w' g t l
theorem cel_refl (w : World) : Cel w w := fun _ _ _ h => h
theorem Cel.trans {a b c : World} (h : Cel a b) (k : Cel b c) : Cel a c := fun g t l r => k g t l (h g t l r)
theorem cel_gr {w w' : World} (h : w.grownBy w' none) : Cel w w' := fun g t l r => r.grown h (by simp)
theorem cel_alloc (w : World) (o : Obj) : Cel w (w.alloc o) := cel_gr (gr_alloc (gr_refl _ _) _)
/-- The function can be called by its number. -/
def Opens (k : Nat) : Prop := ∀ args W, (callFunc k args).run Try.prog W = .ok (.enter k args) W

/-! ### The row as a value, and in memory -/
def lC (c : Cs) : List Value := c.map (Value.int .u64)
/-- The row as one value. -/
def vC (c : Cs) : Value := .agg (lC c).toArray
theorem lC_get {c : Cs} (h : c.length = 12) (i : Nat) (hi : i < 12) : (lC c)[i]? = some (.int .u64 (gC c i)) := by
  unfold lC gC
  rw [List.getElem?_map, List.getElem?_eq_getElem (by omega), List.getD_eq_getElem?_getD, List.getElem?_eq_getElem (by omega)]
  rfl
theorem lC_set (c : Cs) (i : Nat) (x : Int) : lC (c.set i x) = (lC c).set i (.int .u64 x) := by unfold lC; rw [List.map_set]
theorem lC_len (c : Cs) : (lC c).length = c.length := by unfold lC; rw [List.length_map]
theorem lC_size {c : Cs} (h : c.length = 12) : (Try.prog.info? 24).map (·.size) = some (lC c).toArray.size := by
  rw [List.size_toArray, lC_len, h]; kernel_rfl
/-- A row that is handed back out of a variable. -/
theorem ret_C {fn : Func} {p : Tmp} (h : fn.results = #[.cell p 24]) {R : Ending → World → Prop} {a : Act} {w : World} {g : Nat} {c : Cs}
    (hp : a.tmps.getD p undef = .pointer (some ⟨g, 0, none⟩)) (hd : a.defers = []) (hR : Row w g 24 (lC c)) (hl : c.length = 12) (hQ : R (.returned (vC c)) w) :
    bodyPost Try.prog fn R .ret a w :=
  bodyPost_ret (results_cell_row h _ w g _ (lC c).toArray (0, 0) _ hp hR Try.underlying24 rfl (lC_size hl)) hd hQ
end Go.Proofs.Ytkfmcbhoendocaa
