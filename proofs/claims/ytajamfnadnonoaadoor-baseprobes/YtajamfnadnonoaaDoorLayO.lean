/-
  How arguments that came in by value are opened: arrays and structs of one-cell parts. General lemmas; nothing here speaks of the program.
  How a slice of structs among the arguments is opened: each field of each element, its cell and its reading. General; nothing here speaks of the program.
  How structs within structs, and slices of structs within structs, are opened. General; nothing here speaks of the program.
  How a slice among the arguments is opened, whatever its elements: each element's cells, and that they are read. General; nothing here speaks of the program.
  Conditions: each part's own: the arguments are numbers of their kinds; the tables hold what the program's text lays.
-/
import Derived.WalkKit
import Derived.ProofKit
import Derived.OpenShut
import Derived.Deep.Slices
import Derived.Deep.Fields
import Derived.ChangeSame
section
namespace Go.Proofs.YtajamfnadnonoaaDoor.Op
open Go Go.ChangeShapes Go.WideShapes Go.ChangeAt Go.RowKit
section
variable {H : Type} {enc : TypeId × Value → H} {P : Program} {w : World} {r : Reach} {b0 base : Nat} {spare : Nat → Bool} {held : Bool} {t e : TypeId} {v : Value} {d : DataW H} {p : List MemPlace}

theorem okWide_array {n : Nat} (ht : P.underlying t = some (.array n e)) (h : Value.okWide P w r b0 t v) : ∃ cs, v = .agg cs ∧ cs.size = P.cellsOf t := by
  simp only [Value.okWide, ht] at h
  obtain ⟨cs, h1, h2, _⟩ := h
  exact ⟨cs, h1, h2⟩

/-- An array by value, of one-cell elements. -/
theorem open_arr {n : Nat} (ht : P.underlying t = some (.array n e)) (hC : P.cellsOf t = n) (hE : P.cellsOf e = 1) (hv : Value.okWide P w r b0 t v)
    (h : DataW.Trod enc P w base spare held t v d p) :
    ∃ vs : List Value, v = .agg vs.toArray ∧ vs.length = n ∧ ∀ i (hi : i < vs.length), ∃ y m, DataW.trod enc P w base spare held m e [vs[i]] = some y := by
  obtain ⟨cs, rfl, hsz⟩ := okWide_array ht hv
  obtain ⟨fuel, hf⟩ := h
  obtain ⟨xs, m, _, _, hl, hx, hi⟩ := DataW.trod_array ht hf
  have hcs : cs.toList.length = n := by simpa [hC] using hsz
  refine ⟨cs.toList, by simp, hcs, fun i h => ?_⟩
  have h1 := hi i (by omega)
  rw [hE] at h1
  have h2 : (cs.toList.drop (i * 1)).take 1 = [cs.toList[i]] := by
    rw [Nat.mul_one, List.drop_eq_getElem_cons h]; rfl
  have h3 : (Value.agg cs).cells.toList = cs.toList := rfl
  rw [h3, h2, List.getElem?_eq_getElem (by omega)] at h1
  exact ⟨_, m, h1⟩

theorem open_arr_int {n : Nat} {k : IntKind} (ht : P.underlying t = some (.array n e)) (he : P.underlying e = some (.int k)) (hC : P.cellsOf t = n) (hE : P.cellsOf e = 1) (hv : Value.okWide P w r b0 t v)
    (h : DataW.Trod enc P w base spare held t v d p) :
    ∃ xs : List Int, v = .agg (xs.map (Value.int k)).toArray ∧ xs.length = n ∧ ∀ x ∈ xs, (Lit.int k x).wf = true := by
  obtain ⟨vs, rfl, hl, hi⟩ := open_arr ht hC hE hv h
  clear h hv
  have key : ∀ (vs : List Value), (∀ i (hi : i < vs.length), ∃ y m, DataW.trod enc P w base spare held m e [vs[i]] = some y) →
      ∃ xs : List Int, vs = xs.map (Value.int k) ∧ ∀ x ∈ xs, (Lit.int k x).wf = true := by
    intro vs
    induction vs with
    | nil => intro _; exact ⟨[], rfl, by simp⟩
    | cons v0 vs ih =>
      intro hi
      obtain ⟨y, m, hy⟩ := hi 0 (by simp)
      obtain ⟨a, e0, _, wa⟩ := DataW.trod_int he hy
      obtain ⟨xs, hxs, hw⟩ := ih fun i h => hi (i + 1) (by simpa using h)
      simp at e0
      exact ⟨a :: xs, by simp [e0, hxs], by simpa using ⟨wa, hw⟩⟩
  obtain ⟨xs, hxs, hw⟩ := key vs hi
  exact ⟨xs, by rw [hxs], by rw [← hl, hxs]; simp, hw⟩

theorem open_arr_bool {n : Nat} (ht : P.underlying t = some (.array n e)) (he : P.underlying e = some .bool) (hC : P.cellsOf t = n) (hE : P.cellsOf e = 1) (hv : Value.okWide P w r b0 t v)
    (h : DataW.Trod enc P w base spare held t v d p) :
    ∃ xs : List Bool, v = .agg (xs.map Value.bool).toArray ∧ xs.length = n := by
  obtain ⟨vs, rfl, hl, hi⟩ := open_arr ht hC hE hv h
  clear h hv
  have key : ∀ (vs : List Value), (∀ i (hi : i < vs.length), ∃ y m, DataW.trod enc P w base spare held m e [vs[i]] = some y) →
      ∃ xs : List Bool, vs = xs.map Value.bool := by
    intro vs
    induction vs with
    | nil => intro _; exact ⟨[], rfl⟩
    | cons v0 vs ih =>
      intro hi
      obtain ⟨y, m, hy⟩ := hi 0 (by simp)
      obtain ⟨a, e0, _⟩ := DataW.trod_bool he hy
      obtain ⟨xs, hxs⟩ := ih fun i h => hi (i + 1) (by simpa using h)
      simp at e0
      exact ⟨a :: xs, by simp [e0, hxs]⟩
  obtain ⟨xs, hxs⟩ := key vs hi
  exact ⟨xs, by rw [hxs], by rw [← hl, hxs]; simp⟩

/-- A struct by value: its cells, and each field's reading. -/
theorem open_struct {fs : Array Field} (ht : P.underlying t = some (.struct fs)) (hv : Value.okWide P w r b0 t v) (h : DataW.Trod enc P w base spare held t v d p) :
    ∃ cs : List Value, v = .agg cs.toArray ∧ cs.length = P.cellsOf t ∧ ∃ m, ∀ (j : Nat) (f : Field), fs[j]? = some f →
      ∃ y, DataW.trod enc P w base spare held m f.type ((cs.drop f.offset).take (P.cellsOf f.type)) = some y := by
  obtain ⟨cs, rfl, hsz⟩ := okWide_struct ht hv
  obtain ⟨fuel, hf⟩ := h
  obtain ⟨ys, n', _, _, _, hyl, hj⟩ := DataW.trod_struct ht hf
  refine ⟨cs.toList, by simp, by simpa using hsz, n', fun j f hjf => ?_⟩
  have h1 := hj j f hjf
  have h3 : (Value.agg cs).cells.toList = cs.toList := rfl
  have hjl : j < fs.size := (Array.getElem?_eq_some_iff.1 hjf).1
  rw [h3, List.getElem?_eq_getElem (by omega)] at h1
  exact ⟨_, h1⟩
end
end Go.Proofs.YtajamfnadnonoaaDoor.Op
end

section
namespace Go.Proofs.YtajamfnadnonoaaDoor.Op
open Go Go.ChangeShapes Go.WideShapes Go.ChangeAt Go.RowKit

/-- Of a slice of structs with one-cell fields: for each element its fields' cells, and what each is read as. -/
theorem open_items {H : Type} {enc : TypeId × Value → H} {P : Program} {w : World} {r : Reach} {b0 base : Nat} {held : Bool} {t e : TypeId} {v : Value} {d : DataW H} {p : List MemPlace} {fs : Array Field}
    (ht : P.underlying t = some (.slice e)) (he : P.underlying e = some (.struct fs)) (hone : Deep.oneCellFields P fs = true) (hC : P.cellsOf e = fs.size) (hpos : 0 < fs.size)
    (hv : Value.okWide P w r b0 t v) (h : DataW.Trod enc P w base (fun _ => true) held t v d p) :
    ∃ (A : Option Addr) (m c : Nat), v = .slice A m c ∧ m ≤ c ∧ c ≤ 9223372036854775807 ∧
      ∀ i, i < m → ∃ ad, A = some ad ∧ ad.block < w.heap.size ∧ ∃ n, ∀ (j : Nat) (f : Field), fs[j]? = some f →
        ∃ u y, w.cell? (ad.add (i * fs.size + j)) = some u ∧ DataW.trod enc P w base (fun _ => true) held n f.type [u] = some y := by
  obtain ⟨fuel, hf⟩ := h
  obtain ⟨A0, m0, c0, rfl⟩ := okWide_slice ht hv
  rcases Deep.open_slice ht hf with ⟨h1, _⟩ | ⟨a, len, cap, m, n, D, Pl, h1, _, hl, hm, hmm, _, hi⟩
  · simp only [Value.cells, List.cons.injEq, and_true] at h1
    exact ⟨none, 0, 0, by simpa using h1, Nat.le_refl _, by omega, fun i h => absurd h (by omega)⟩
  · simp only [Value.cells, List.cons.injEq, and_true] at h1
    refine ⟨some a, len, cap, by simpa using h1, hl, by unfold maxLen at hm; omega, fun i him => ?_⟩
    simp only [if_true] at hmm
    obtain ⟨cs', hc, ht'⟩ := hi i (by omega)
    rw [hC] at hc
    obtain ⟨ys, n', _, _, hlen, hyl, hg⟩ := DataW.trod_struct he ht'
    obtain ⟨_, hcl, hat⟩ := World.cells?_some hc
    have hcell : ∀ j, (hj : j < fs.size) → w.cell? (a.add (i * fs.size + j)) = some (cs'[j]'(by omega)) := fun j hj => by
      have := hat j hj
      rw [Deep.add_add] at this
      rw [this, List.getElem?_eq_getElem]
    refine ⟨a, rfl, ?_, n', fun j f hj => ?_⟩
    · have h0 := hcell 0 hpos
      rw [Nat.add_zero] at h0
      have hb : (a.add (i * fs.size)).block = a.block := by unfold Addr.add; split <;> rfl
      rcases Nat.lt_or_ge a.block w.heap.size with h2 | h2
      · exact h2
      · simp [World.cell?, hb, Array.getElem?_eq_none h2] at h0
    · obtain ⟨ho, hk⟩ := Deep.hone_of hone j f hj
      have hjl : j < fs.size := (Array.getElem?_eq_some_iff.1 hj).1
      have h2 := hg j f hj
      rw [ho, hk] at h2
      rw [show (cs'.drop j).take 1 = [cs'[j]'(by omega)] from by rw [List.drop_eq_getElem_cons (by omega)]; rfl, List.getElem?_eq_getElem (by omega)] at h2
      exact ⟨_, _, hcell j hjl, h2⟩
end Go.Proofs.YtajamfnadnonoaaDoor.Op
end

section
namespace Go.Proofs.YtajamfnadnonoaaDoor.Op
open Go Go.ChangeShapes Go.WideShapes Go.ChangeAt Go.RowKit

/-- A struct that is read: each field's reading. -/
theorem read_struct {H : Type} {enc : TypeId × Value → H} {P : Program} {w : World} {base : Nat} {spare : Nat → Bool} {held : Bool} {t : TypeId} {m : Nat} {cs : List Value} {y : DataW H × List MemPlace} {fs : Array Field}
    (ht : P.underlying t = some (.struct fs)) (h : DataW.trod enc P w base spare held m t cs = some y) :
    ∃ n, ∀ (j : Nat) (f : Field), fs[j]? = some f → ∃ z, DataW.trod enc P w base spare held n f.type ((cs.drop f.offset).take (P.cellsOf f.type)) = some z := by
  obtain ⟨ys, n', _, _, _, hyl, hj⟩ := DataW.trod_struct ht h
  refine ⟨n', fun j f hjf => ?_⟩
  have h1 := hj j f hjf
  have hjl : j < fs.size := (Array.getElem?_eq_some_iff.1 hjf).1
  rw [List.getElem?_eq_getElem (by omega)] at h1
  exact ⟨_, h1⟩

/-- A slice of structs with one-cell fields that is read: for each element its fields' cells, and what each is read as. -/
theorem read_items {H : Type} {enc : TypeId × Value → H} {P : Program} {w : World} {base : Nat} {held : Bool} {t e : TypeId} {v : Value} {k : Nat} {y : DataW H × List MemPlace} {fs : Array Field}
    (ht : P.underlying t = some (.slice e)) (he : P.underlying e = some (.struct fs)) (hone : Deep.oneCellFields P fs = true) (hC : P.cellsOf e = fs.size) (hpos : 0 < fs.size)
    (hf : DataW.trod enc P w base (fun _ => true) held k t [v] = some y) :
    ∃ (A : Option Addr) (m c : Nat), v = .slice A m c ∧ m ≤ c ∧ c ≤ 9223372036854775807 ∧
      ∀ i, i < m → ∃ ad, A = some ad ∧ ad.block < w.heap.size ∧ ∃ n, ∀ (j : Nat) (f : Field), fs[j]? = some f →
        ∃ u y, w.cell? (ad.add (i * fs.size + j)) = some u ∧ DataW.trod enc P w base (fun _ => true) held n f.type [u] = some y := by
  rcases Deep.open_slice ht hf with ⟨h1, _⟩ | ⟨a, len, cap, m, n, D, Pl, h1, _, hl, hm, hmm, _, hi⟩
  · simp only [List.cons.injEq, and_true] at h1
    exact ⟨none, 0, 0, h1, Nat.le_refl _, by omega, fun i h => absurd h (by omega)⟩
  · simp only [List.cons.injEq, and_true] at h1
    refine ⟨some a, len, cap, h1, hl, by unfold maxLen at hm; omega, fun i him => ?_⟩
    simp only [if_true] at hmm
    obtain ⟨cs', hc, ht'⟩ := hi i (by omega)
    rw [hC] at hc
    obtain ⟨ys, n', _, _, hlen, hyl, hg⟩ := DataW.trod_struct he ht'
    obtain ⟨_, hcl, hat⟩ := World.cells?_some hc
    have hcell : ∀ j, (hj : j < fs.size) → w.cell? (a.add (i * fs.size + j)) = some (cs'[j]'(by omega)) := fun j hj => by
      have := hat j hj
      rw [Deep.add_add] at this
      rw [this, List.getElem?_eq_getElem]
    refine ⟨a, rfl, ?_, n', fun j f hj => ?_⟩
    · have h0 := hcell 0 hpos
      rw [Nat.add_zero] at h0
      have hb : (a.add (i * fs.size)).block = a.block := by unfold Addr.add; split <;> rfl
      rcases Nat.lt_or_ge a.block w.heap.size with h2 | h2
      · exact h2
      · simp [World.cell?, hb, Array.getElem?_eq_none h2] at h0
    · obtain ⟨ho, hk⟩ := Deep.hone_of hone j f hj
      have hjl : j < fs.size := (Array.getElem?_eq_some_iff.1 hj).1
      have h2 := hg j f hj
      rw [ho, hk] at h2
      rw [show (cs'.drop j).take 1 = [cs'[j]'(by omega)] from by rw [List.drop_eq_getElem_cons (by omega)]; rfl, List.getElem?_eq_getElem (by omega)] at h2
      exact ⟨_, _, hcell j hjl, h2⟩
end Go.Proofs.YtajamfnadnonoaaDoor.Op
end

section
namespace Go.Proofs.YtajamfnadnonoaaDoor.Op
open Go Go.ChangeShapes Go.WideShapes Go.ChangeAt Go.RowKit

theorem open_rows {H : Type} {enc : TypeId × Value → H} {P : Program} {w : World} {r : Reach} {b0 base : Nat} {held : Bool} {t e : TypeId} {v : Value} {d : DataW H} {p : List MemPlace} {K : Nat}
    (ht : P.underlying t = some (.slice e)) (hC : P.cellsOf e = K) (hpos : 0 < K)
    (hv : Value.okWide P w r b0 t v) (h : DataW.Trod enc P w base (fun _ => true) held t v d p) :
    ∃ (A : Option Addr) (m c : Nat), v = .slice A m c ∧ m ≤ c ∧ c ≤ 9223372036854775807 ∧
      ∀ i, i < m → ∃ ad, A = some ad ∧ ad.block < w.heap.size ∧ ∃ n cs y, cs.length = K ∧ (∀ j, j < K → w.cell? (ad.add (i * K + j)) = cs[j]?) ∧ DataW.trod enc P w base (fun _ => true) held n e cs = some y := by
  obtain ⟨fuel, hf⟩ := h
  obtain ⟨A0, m0, c0, rfl⟩ := okWide_slice ht hv
  rcases Deep.open_slice ht hf with ⟨h1, _⟩ | ⟨a, len, cap, m, n, D, Pl, h1, _, hl, hm, hmm, _, hi⟩
  · simp only [Value.cells, List.cons.injEq, and_true] at h1
    exact ⟨none, 0, 0, by simpa using h1, Nat.le_refl _, by omega, fun i h => absurd h (by omega)⟩
  · simp only [Value.cells, List.cons.injEq, and_true] at h1
    refine ⟨some a, len, cap, by simpa using h1, hl, by unfold maxLen at hm; omega, fun i him => ?_⟩
    simp only [if_true] at hmm
    obtain ⟨cs', hc, ht'⟩ := hi i (by omega)
    rw [hC] at hc
    obtain ⟨_, hcl, hat⟩ := World.cells?_some hc
    have hcell : ∀ j, j < K → w.cell? (a.add (i * K + j)) = cs'[j]? := fun j hj => by
      have := hat j hj
      rw [Deep.add_add] at this
      exact this
    refine ⟨a, rfl, ?_, _, cs', _, hcl, hcell, ht'⟩
    have h0 := hcell 0 hpos
    rw [Nat.add_zero] at h0
    have hb : (a.add (i * K)).block = a.block := by unfold Addr.add; split <;> rfl
    rcases Nat.lt_or_ge a.block w.heap.size with h2 | h2
    · exact h2
    · rw [show cs'[0]? = some (cs'[0]'(by omega)) from List.getElem?_eq_getElem (by omega)] at h0
      simp [World.cell?, hb, Array.getElem?_eq_none h2] at h0
end Go.Proofs.YtajamfnadnonoaaDoor.Op
end
