/-
  How a slice among the arguments is opened, whatever its elements: each element's cells, and that they are read. General; nothing here speaks of the program.
  Conditions: an element has at least one cell.
-/
import Derived.Test.YtecpghenjannhaaOpenT
namespace Go.Proofs.Ytecpghenjannhaa.Op
open Go Go.ChangeShapes Go.WideShapes Go.ChangeAt Go.RowKit

theorem open_rows {H : Type} {enc : TypeId × Value → H} {P : Program} {w : World} {r : Reach} {b0 base : Nat} {held : Bool} {t e : TypeId} {v : Value} {d : DataW H} {p : List MemPlace} {K : Nat}
    (ht : P.underlying t = some (.slice e)) (hC : P.cellsOf e = K) (hpos : 0 < K)
    (hv : Value.okWide P w r b0 t v) (h : DataW.Trod enc P w base (fun _ => true) held t v d p) :
    ∃ (A : Option Addr) (m c : Nat), v = .slice A m c ∧ m ≤ c ∧ c ≤ 9223372036854775807 ∧
      ∀ i, i < m → ∃ ad, A = some ad ∧ ad.block < w.heap.size ∧ ∃ n cs y, cs.length = K ∧ (∀ j, j < K → w.cell? (ad.add (i * K + j)) = cs[j]?) ∧ DataW.trod enc P w base (fun _ => true) held n e cs = some y := by
  obtain ⟨fuel, hf⟩ := h
  obtain ⟨A0, m0, c0, rfl⟩ := okWide_slice ht hv
  rcases Deep.open_slice ht hf with ⟨h1, _⟩ | ⟨a, len, cap, m, n, D, Pl, h1, _, hl, hm, hmm, _, hi⟩
  · simp only [Value.cells, List.cons.injEq, and_true] at h1
    exact ⟨none, 0, 0, by simpa using h1, Nat.le_refl _, by omega, fun i h => absurd h (by omega)⟩
  · simp only [Value.cells, List.cons.injEq, and_true] at h1
    refine ⟨some a, len, cap, by simpa using h1, hl, by unfold maxLen at hm; omega, fun i him => ?_⟩
    simp only [if_true] at hmm
    obtain ⟨cs', hc, ht'⟩ := hi i (by omega)
    rw [hC] at hc
    obtain ⟨_, hcl, hat⟩ := World.cells?_some hc
    have hcell : ∀ j, j < K → w.cell? (a.add (i * K + j)) = cs'[j]? := fun j hj => by
      have := hat j hj
      rw [Deep.add_add] at this
      exact this
    refine ⟨a, rfl, ?_, _, cs', _, hcl, hcell, ht'⟩
    have h0 := hcell 0 hpos
    rw [Nat.add_zero] at h0
    have hb : (a.add (i * K)).block = a.block := by unfold Addr.add; split <;> rfl
    rcases Nat.lt_or_ge a.block w.heap.size with h2 | h2
    · exact h2
    · rw [show cs'[0]? = some (cs'[0]'(by omega)) from List.getElem?_eq_getElem (by omega)] at h0
      simp [World.cell?, hb, Array.getElem?_eq_none h2] at h0
end Go.Proofs.Ytecpghenjannhaa.Op
