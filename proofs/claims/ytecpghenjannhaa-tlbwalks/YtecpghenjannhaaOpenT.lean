/-
  How structs within structs, and slices of structs within structs, are opened. General; nothing here speaks of the program.
  Conditions: each field of a slice's struct is one cell.
-/
import Derived.Test.YtecpghenjannhaaOpenS
namespace Go.Proofs.Ytecpghenjannhaa.Op
open Go Go.ChangeShapes Go.WideShapes Go.ChangeAt Go.RowKit

/-- A struct that is read: each field's reading. -/
theorem read_struct {H : Type} {enc : TypeId × Value → H} {P : Program} {w : World} {base : Nat} {spare : Nat → Bool} {held : Bool} {t : TypeId} {m : Nat} {cs : List Value} {y : DataW H × List MemPlace} {fs : Array Field}
    (ht : P.underlying t = some (.struct fs)) (h : DataW.trod enc P w base spare held m t cs = some y) :
    ∃ n, ∀ (j : Nat) (f : Field), fs[j]? = some f → ∃ z, DataW.trod enc P w base spare held n f.type ((cs.drop f.offset).take (P.cellsOf f.type)) = some z := by
  obtain ⟨ys, n', _, _, _, hyl, hj⟩ := DataW.trod_struct ht h
  refine ⟨n', fun j f hjf => ?_⟩
  have h1 := hj j f hjf
  have hjl : j < fs.size := (Array.getElem?_eq_some_iff.1 hjf).1
  rw [List.getElem?_eq_getElem (by omega)] at h1
  exact ⟨_, h1⟩

/-- A slice of structs with one-cell fields that is read: for each element its fields' cells, and what each is read as. -/
theorem read_items {H : Type} {enc : TypeId × Value → H} {P : Program} {w : World} {base : Nat} {held : Bool} {t e : TypeId} {v : Value} {k : Nat} {y : DataW H × List MemPlace} {fs : Array Field}
    (ht : P.underlying t = some (.slice e)) (he : P.underlying e = some (.struct fs)) (hone : Deep.oneCellFields P fs = true) (hC : P.cellsOf e = fs.size) (hpos : 0 < fs.size)
    (hf : DataW.trod enc P w base (fun _ => true) held k t [v] = some y) :
    ∃ (A : Option Addr) (m c : Nat), v = .slice A m c ∧ m ≤ c ∧ c ≤ 9223372036854775807 ∧
      ∀ i, i < m → ∃ ad, A = some ad ∧ ad.block < w.heap.size ∧ ∃ n, ∀ (j : Nat) (f : Field), fs[j]? = some f →
        ∃ u y, w.cell? (ad.add (i * fs.size + j)) = some u ∧ DataW.trod enc P w base (fun _ => true) held n f.type [u] = some y := by
  rcases Deep.open_slice ht hf with ⟨h1, _⟩ | ⟨a, len, cap, m, n, D, Pl, h1, _, hl, hm, hmm, _, hi⟩
  · simp only [List.cons.injEq, and_true] at h1
    exact ⟨none, 0, 0, h1, Nat.le_refl _, by omega, fun i h => absurd h (by omega)⟩
  · simp only [List.cons.injEq, and_true] at h1
    refine ⟨some a, len, cap, h1, hl, by unfold maxLen at hm; omega, fun i him => ?_⟩
    simp only [if_true] at hmm
    obtain ⟨cs', hc, ht'⟩ := hi i (by omega)
    rw [hC] at hc
    obtain ⟨ys, n', _, _, hlen, hyl, hg⟩ := DataW.trod_struct he ht'
    obtain ⟨_, hcl, hat⟩ := World.cells?_some hc
    have hcell : ∀ j, (hj : j < fs.size) → w.cell? (a.add (i * fs.size + j)) = some (cs'[j]'(by omega)) := fun j hj => by
      have := hat j hj
      rw [Deep.add_add] at this
      rw [this, List.getElem?_eq_getElem]
    refine ⟨a, rfl, ?_, n', fun j f hj => ?_⟩
    · have h0 := hcell 0 hpos
      rw [Nat.add_zero] at h0
      have hb : (a.add (i * fs.size)).block = a.block := by unfold Addr.add; split <;> rfl
      rcases Nat.lt_or_ge a.block w.heap.size with h2 | h2
      · exact h2
      · simp [World.cell?, hb, Array.getElem?_eq_none h2] at h0
    · obtain ⟨ho, hk⟩ := Deep.hone_of hone j f hj
      have hjl : j < fs.size := (Array.getElem?_eq_some_iff.1 hj).1
      have h2 := hg j f hj
      rw [ho, hk] at h2
      rw [show (cs'.drop j).take 1 = [cs'[j]'(by omega)] from by rw [List.drop_eq_getElem_cons (by omega)]; rfl, List.getElem?_eq_getElem (by omega)] at h2
      exact ⟨_, _, hcell j hjl, h2⟩
end Go.Proofs.Ytecpghenjannhaa.Op
