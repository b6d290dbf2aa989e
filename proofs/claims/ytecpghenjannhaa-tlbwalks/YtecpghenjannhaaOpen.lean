/-
  How arguments that came in by value are opened: arrays and structs of one-cell parts. General lemmas; nothing here speaks of the program.
  Conditions: none.
-/
import Derived.WalkKit
import Derived.ProofKit
import Derived.OpenShut
namespace Go.Proofs.Ytecpghenjannhaa.Op
open Go Go.ChangeShapes Go.WideShapes Go.ChangeAt Go.RowKit
section
variable {H : Type} {enc : TypeId × Value → H} {P : Program} {w : World} {r : Reach} {b0 base : Nat} {spare : Nat → Bool} {held : Bool} {t e : TypeId} {v : Value} {d : DataW H} {p : List MemPlace}

theorem okWide_array {n : Nat} (ht : P.underlying t = some (.array n e)) (h : Value.okWide P w r b0 t v) : ∃ cs, v = .agg cs ∧ cs.size = P.cellsOf t := by
  simp only [Value.okWide, ht] at h
  obtain ⟨cs, h1, h2, _⟩ := h
  exact ⟨cs, h1, h2⟩

/-- An array by value, of one-cell elements. -/
theorem open_arr {n : Nat} (ht : P.underlying t = some (.array n e)) (hC : P.cellsOf t = n) (hE : P.cellsOf e = 1) (hv : Value.okWide P w r b0 t v)
    (h : DataW.Trod enc P w base spare held t v d p) :
    ∃ vs : List Value, v = .agg vs.toArray ∧ vs.length = n ∧ ∀ i (hi : i < vs.length), ∃ y m, DataW.trod enc P w base spare held m e [vs[i]] = some y := by
  obtain ⟨cs, rfl, hsz⟩ := okWide_array ht hv
  obtain ⟨fuel, hf⟩ := h
  obtain ⟨xs, m, _, _, hl, hx, hi⟩ := DataW.trod_array ht hf
  have hcs : cs.toList.length = n := by simpa [hC] using hsz
  refine ⟨cs.toList, by simp, hcs, fun i h => ?_⟩
  have h1 := hi i (by omega)
  rw [hE] at h1
  have h2 : (cs.toList.drop (i * 1)).take 1 = [cs.toList[i]] := by
    rw [Nat.mul_one, List.drop_eq_getElem_cons h]; rfl
  have h3 : (Value.agg cs).cells.toList = cs.toList := rfl
  rw [h3, h2, List.getElem?_eq_getElem (by omega)] at h1
  exact ⟨_, m, h1⟩

theorem open_arr_int {n : Nat} {k : IntKind} (ht : P.underlying t = some (.array n e)) (he : P.underlying e = some (.int k)) (hC : P.cellsOf t = n) (hE : P.cellsOf e = 1) (hv : Value.okWide P w r b0 t v)
    (h : DataW.Trod enc P w base spare held t v d p) :
    ∃ xs : List Int, v = .agg (xs.map (Value.int k)).toArray ∧ xs.length = n ∧ ∀ x ∈ xs, (Lit.int k x).wf = true := by
  obtain ⟨vs, rfl, hl, hi⟩ := open_arr ht hC hE hv h
  clear h hv
  have key : ∀ (vs : List Value), (∀ i (hi : i < vs.length), ∃ y m, DataW.trod enc P w base spare held m e [vs[i]] = some y) →
      ∃ xs : List Int, vs = xs.map (Value.int k) ∧ ∀ x ∈ xs, (Lit.int k x).wf = true := by
    intro vs
    induction vs with
    | nil => intro _; exact ⟨[], rfl, by simp⟩
    | cons v0 vs ih =>
      intro hi
      obtain ⟨y, m, hy⟩ := hi 0 (by simp)
      obtain ⟨a, e0, _, wa⟩ := DataW.trod_int he hy
      obtain ⟨xs, hxs, hw⟩ := ih fun i h => hi (i + 1) (by simpa using h)
      simp at e0
      exact ⟨a :: xs, by simp [e0, hxs], by simpa using ⟨wa, hw⟩⟩
  obtain ⟨xs, hxs, hw⟩ := key vs hi
  exact ⟨xs, by rw [hxs], by rw [← hl, hxs]; simp, hw⟩

theorem open_arr_bool {n : Nat} (ht : P.underlying t = some (.array n e)) (he : P.underlying e = some .bool) (hC : P.cellsOf t = n) (hE : P.cellsOf e = 1) (hv : Value.okWide P w r b0 t v)
    (h : DataW.Trod enc P w base spare held t v d p) :
    ∃ xs : List Bool, v = .agg (xs.map Value.bool).toArray ∧ xs.length = n := by
  obtain ⟨vs, rfl, hl, hi⟩ := open_arr ht hC hE hv h
  clear h hv
  have key : ∀ (vs : List Value), (∀ i (hi : i < vs.length), ∃ y m, DataW.trod enc P w base spare held m e [vs[i]] = some y) →
      ∃ xs : List Bool, vs = xs.map Value.bool := by
    intro vs
    induction vs with
    | nil => intro _; exact ⟨[], rfl⟩
    | cons v0 vs ih =>
      intro hi
      obtain ⟨y, m, hy⟩ := hi 0 (by simp)
      obtain ⟨a, e0, _⟩ := DataW.trod_bool he hy
      obtain ⟨xs, hxs⟩ := ih fun i h => hi (i + 1) (by simpa using h)
      simp at e0
      exact ⟨a :: xs, by simp [e0, hxs]⟩
  obtain ⟨xs, hxs⟩ := key vs hi
  exact ⟨xs, by rw [hxs], by rw [← hl, hxs]; simp⟩

/-- A struct by value: its cells, and each field's reading. -/
theorem open_struct {fs : Array Field} (ht : P.underlying t = some (.struct fs)) (hv : Value.okWide P w r b0 t v) (h : DataW.Trod enc P w base spare held t v d p) :
    ∃ cs : List Value, v = .agg cs.toArray ∧ cs.length = P.cellsOf t ∧ ∃ m, ∀ (j : Nat) (f : Field), fs[j]? = some f →
      ∃ y, DataW.trod enc P w base spare held m f.type ((cs.drop f.offset).take (P.cellsOf f.type)) = some y := by
  obtain ⟨cs, rfl, hsz⟩ := okWide_struct ht hv
  obtain ⟨fuel, hf⟩ := h
  obtain ⟨ys, n', _, _, _, hyl, hj⟩ := DataW.trod_struct ht hf
  refine ⟨cs.toList, by simp, by simpa using hsz, n', fun j f hjf => ?_⟩
  have h1 := hj j f hjf
  have h3 : (Value.agg cs).cells.toList = cs.toList := rfl
  have hjl : j < fs.size := (Array.getElem?_eq_some_iff.1 hjf).1
  rw [h3, List.getElem?_eq_getElem (by omega)] at h1
  exact ⟨_, h1⟩
end
end Go.Proofs.Ytecpghenjannhaa.Op
