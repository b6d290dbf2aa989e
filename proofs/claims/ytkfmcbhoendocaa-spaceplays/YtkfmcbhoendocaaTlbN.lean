/-
  A row of leaves that is written to: one leaf, or several; what the builtins leave.
  Conditions: none.
-/
import Derived.Test.YtkfmcbhoendocaaTlbM
namespace Go.Proofs.Ytkfmcbhoendocaa.T
open Go Go.RowKit W D A P M
set_option linter.unusedVariables false

theorem Row_setCells {t : TypeId} {g : Nat} : ∀ (vs : List Value) (o : Nat) (w : World) (l : List Value), Row w g t l → o + vs.length ≤ l.length → Row (w.setCells g o vs) g t (l.take o ++ vs ++ l.drop (o + vs.length))
  | [], o, w, l, h, hl => by
    simp only [List.length_nil, Nat.add_zero, List.append_nil, List.take_append_drop]
    exact h
  | v :: vs, o, w, l, h, hl => by
    have hl' : o + (vs.length + 1) ≤ l.length := by simpa using hl
    have := Row_setCells vs (o + 1) _ _ (h.put o v) (by rw [List.length_set]; omega)
    show Row ((w.setCell ⟨g, o, none⟩ v).setCells g (o + 1) vs) g t _
    have e : (l.set o v).take (o + 1) ++ vs ++ (l.set o v).drop (o + 1 + vs.length) = l.take o ++ (v :: vs) ++ l.drop (o + (v :: vs).length) := by
      rw [List.drop_set_of_lt (by omega), List.take_succ_eq_append_getElem (by rw [List.length_set]; omega), List.getElem_set_self, List.take_set_of_le (by omega)]
      simp only [List.append_assoc, List.singleton_append, List.length_cons]
      rw [show o + 1 + vs.length = o + (vs.length + 1) by omega, List.cons_append]
    rw [← e]
    exact this
theorem gr_setCells {a : World} {g : Nat} : ∀ (vs : List Value) (o : Nat) (w : World), a.grownBy w (some g) → a.grownBy (w.setCells g o vs) (some g)
  | [], o, w, h => h
  | v :: vs, o, w, h => gr_setCells vs (o + 1) _ (gr_set (i := o) h v)
theorem flat_set : ∀ (L : List Lf) (i : Nat) (k : Lf), i < L.length →
    (((((flat L).set (i * 5) (.int .u64 k.va)).set (i * 5 + 1) (.int .u64 k.asid)).set (i * 5 + 2) (.int .u64 k.pte)).set (i * 5 + 3) (.int .i64 k.lev)).set (i * 5 + 4) (.bool k.glob) = flat (L.set i k)
  | [], i, k, h => by simp at h
  | x :: L, 0, k, h => by simp [flat, cellsT]
  | x :: L, i + 1, k, h => by
    have ih := flat_set L i k (by simpa using h)
    have s : ∀ (m : List Value) (c : Nat) (v : Value), (cellsT x ++ m).set ((i + 1) * 5 + c) v = cellsT x ++ m.set (i * 5 + c) v := fun m c v => by
      rw [List.set_append_right _ _ (by show 5 ≤ _; omega)]
      congr 2
      show _ - 5 = _
      omega
    have s0 : ∀ (m : List Value) (v : Value), (cellsT x ++ m).set ((i + 1) * 5) v = cellsT x ++ m.set (i * 5) v := fun m v => s m 0 v
    rw [flat, s0, s, s, s, s, List.set_cons_succ, flat, ← ih]
section
variable {E : TypeId} {w w' : World} {B g cap : Nat} {v : Value} {cur : List Value} {L M : List Lf}
/-- One leaf is written over another. -/
theorem Laid.put5 (h : Laid E w g cap cur L) {i : Nat} (hi : i < L.length) (k : Lf) :
    ∃ c', Laid E (((((w.setCell ⟨g, i * 5, none⟩ (.int .u64 k.va)).setCell ⟨g, i * 5 + 1, none⟩ (.int .u64 k.asid)).setCell ⟨g, i * 5 + 2, none⟩ (.int .u64 k.pte)).setCell ⟨g, i * 5 + 3, none⟩ (.int .i64 k.lev)).setCell ⟨g, i * 5 + 4, none⟩ (.bool k.glob)) g cap c' (L.set i k) := by
  refine ⟨_, ((((h.row.put (i * 5) (.int .u64 k.va)).put (i * 5 + 1) (.int .u64 k.asid)).put (i * 5 + 2) (.int .u64 k.pte)).put (i * 5 + 3) (.int .i64 k.lev)).put (i * 5 + 4) (.bool k.glob), by simpa using h.len, by simpa using h.le, h.cap, ?_⟩
  rw [List.length_set, ← flat_set L i k hi, ← h.tk, List.take_set, List.take_set, List.take_set, List.take_set, List.take_set]
theorem gr_put5 {a : World} (h : a.grownBy w (some g)) (i : Nat) (v0 v1 v2 v3 v4 : Value) :
    a.grownBy (((((w.setCell ⟨g, i, none⟩ v0).setCell ⟨g, i + 1, none⟩ v1).setCell ⟨g, i + 2, none⟩ v2).setCell ⟨g, i + 3, none⟩ v3).setCell ⟨g, i + 4, none⟩ v4) (some g) :=
  gr_set (gr_set (gr_set (gr_set (gr_set h _) _) _) _) _
/-- Cells behind the first i leaves are written. -/
theorem Laid.cut (h : Laid E w g cap cur L) {i : Nat} (hi : i ≤ L.length) (vs : List Value) (hv : i * 5 + vs.length ≤ cap * 5) : ∃ c', Laid E (w.setCells g (i * 5) vs) g cap c' (L.take i) := by
  have hle := h.le
  have hcl := h.len
  have hlt : (L.take i).length = i := by simp; omega
  refine ⟨_, Row_setCells vs (i * 5) w cur h.row (by omega), ?_, by omega, h.cap, ?_⟩
  · simp; omega
  · rw [hlt, List.append_assoc, List.take_left' (by simp; omega), ← flat_take, ← h.tk, List.take_take, Nat.min_eq_left (by omega)]
/-- Leaves are written from the i-th place on: what is ahead stays. -/
theorem Laid.splice (h : Laid E w g cap cur L) {i : Nat} (hi : i ≤ L.length) (M : List Lf) (hM : i + M.length ≤ cap) : ∃ c', Laid E (w.setCells g (i * 5) (flat M)) g cap c' (L.take i ++ M) := by
  have hle := h.le
  have hcl := h.len
  have hfl := flat_length M
  have hlt : (L.take i).length = i := by simp; omega
  refine ⟨_, Row_setCells (flat M) (i * 5) w cur h.row (by omega), ?_, by simp; omega, h.cap, ?_⟩
  · simp; omega
  · have e : cur.take (i * 5) = flat (L.take i) := by rw [← flat_take, ← h.tk, List.take_take, Nat.min_eq_left (by omega)]
    rw [e, ← flat_append, List.take_left' (by rw [flat_length])]
theorem Laid.short (h : Laid E w g cap cur L) (i : Nat) : Laid E w g cap cur (L.take i) := by
  have hle := h.le
  refine ⟨h.row, h.len, by simp; omega, h.cap, ?_⟩
  rw [← flat_take, List.length_take, ← h.tk, List.take_take]
  rw [show min i L.length * 5 = min (i * 5) (L.length * 5) by omega]
end
/-- 'clear' on leaves. -/
theorem run_clear_5 {P : Program} (w : World) (t e ty : TypeId) (z : Value) (ht : P.underlying t = some (.slice e)) (hv : ∀ w, (zeroValue e).run P w = .ok z w) (hz : z.cells.size = 5) (h1 : ∀ u ∈ z.cells, u.oneCell' = true) (b o n c : Nat) (hn : 0 < n)
    (hc : ∀ j, j < n * 5 → (w.cell? ⟨b, o + j, none⟩).isSome = true) (hf : ∀ j, j < n * 5 → w.frozen? ⟨b, o + j, none⟩ = false) :
    ∃ zs, zs.length = n * 5 ∧ (Builtin.clear_ #[t] ty #[.slice (some ⟨b, o, none⟩) n c]).run P w = .ok (.tuple #[]) (w.setCells b o zs) := by
  have hsz : (Builtin.zeroCells z.cells n).toList.length = n * 5 := by simp [Builtin.zeroCells, hz]
  refine ⟨(Builtin.zeroCells z.cells n).toList, hsz, ?_⟩
  have hst := run_storeCells_cells (P := P) b o (Builtin.zeroCells z.cells n).toList 0 w (by rw [hsz]; simpa using hc) (by rw [hsz]; simpa using hf) (by
    intro u hu
    simp only [Builtin.zeroCells, Array.toList_map, List.mem_map] at hu
    obtain ⟨i, hi, rfl⟩ := hu
    have hlt : i % z.cells.size < z.cells.size := Nat.mod_lt _ (by omega)
    rw [getElem!_pos z.cells _ hlt]
    exact h1 _ (Array.getElem_mem hlt))
  simp only [Nat.add_zero] at hst
  obtain ⟨m, rfl⟩ : ∃ m, n = m + 1 := ⟨n - 1, by omega⟩
  simp [Builtin.clear_, run_underlying ht, hv, hst]
end Go.Proofs.Ytkfmcbhoendocaa.T
