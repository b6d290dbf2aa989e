/-
  Memory in the model: a block that is one row of cells, a Ram behind its pointer, bytes that a slice shows; and what a step leaves of them.
  Conditions: none.
-/
import Derived.WalkKit
import Derived.Deep.OwnRows
import Derived.Laws.BytesArg
import Derived.Laws.CopyOwn
import Derived.Deep.Draws
import Derived.Test.YtajamfnadnonoaaDoorLayR
namespace Go.Proofs.YtajamfnadnonoaaDoor.M
open Go Go.RowKit
set_option linter.unusedVariables false

/-- Block g is one row, just the cells l, none frozen. -/
def Row (w : World) (g : Nat) (t : TypeId) (l : List Value) : Prop := w.heap[g]? = some (.cells l.toArray t (0, 0))
def vals (bs : List Int) : List Value := bs.map (Value.int .u8)
theorem vals_length (bs : List Int) : (vals bs).length = bs.length := by simp [vals]
theorem vals_get (bs : List Int) (i : Nat) : (vals bs)[i]? = bs[i]?.map (Value.int .u8) := by simp [vals]

section
variable {w w' : World} {g : Nat} {t : TypeId} {l : List Value}
theorem Row.lt (h : Row w g t l) : g < w.heap.size := (Array.getElem?_eq_some_iff.1 h).1
theorem Row.cell (h : Row w g t l) (i : Nat) : w.cell? ⟨g, i, none⟩ = l[i]? := by simp [World.cell?, show w.heap[g]? = _ from h]
theorem Row.free (h : Row w g t l) (i : Nat) : w.frozen? ⟨g, i, none⟩ = false := by simp [World.frozen?, show w.heap[g]? = _ from h]
theorem Row.fresh (w : World) (t : TypeId) (l : List Value) : Row (w.alloc (.cells l.toArray t)) w.heap.size t l := by
  show (w.heap.push _)[w.heap.size]? = _
  simp
theorem Row.alloc (h : Row w g t l) (o : Obj) : Row (w.alloc o) g t l := (Below.heap_alloc w o g h.lt).trans h
theorem Row.put (h : Row w g t l) (i : Nat) (u : Value) : Row (w.setCell ⟨g, i, none⟩ u) g t (l.set i u) := by
  unfold Row at h ⊢
  simp [World.setCell, Array.getElem?_modify, h]
theorem Row.other (h : Row w g t l) {a : Addr} (hp : g ≠ a.block) (u : Value) : Row (w.setCell a u) g t l := (Below.heap_setCell w a u g hp).trans h
theorem Row.grown {row : Option Nat} (h : Row w g t l) (hb : w.grownBy w' row) (hg : some g ≠ row) : Row w' g t l := (hb.block g h.lt hg).trans h
theorem Row.below {B : Nat} (h : Row w g t l) (hb : Below B w w') (hg : g < B) : Row w' g t l := (hb.block g hg).trans h
theorem Row.apart {g' : Nat} {t' : TypeId} {l' : List Value} (h : Row w g t l) (h' : Row w g' t' l') (hne : t ≠ t') : g ≠ g' := by
  rintro rfl
  unfold Row at h h'
  rw [h] at h'
  injection h' with h'
  injection h' with _ ht
  exact hne ht
end

/-! ### Steps: what only wrote to one row, or to none, of what was there -/
section
variable {a b c w : World} {row : Option Nat}
theorem gr_refl (w : World) (row : Option Nat) : w.grownBy w row := World.grownBy.refl w row
theorem gr_trans (h : a.grownBy b row) (k : b.grownBy c row) : a.grownBy c row :=
  ⟨k.os.trans h.os, k.tape.trans h.tape, k.output.trans h.output, Nat.le_trans h.size k.size, fun i hi hn => (k.block i (Nat.lt_of_lt_of_le hi h.size) hn).trans (h.block i hi hn)⟩
theorem gr_alloc (h : a.grownBy w row) (o : Obj) : a.grownBy (w.alloc o) row :=
  ⟨h.os, h.tape, h.output, Nat.le_trans h.size (by simp), fun i hi hn => (Below.heap_alloc w o i (Nat.lt_of_lt_of_le hi h.size)).trans (h.block i hi hn)⟩
theorem gr_set {g i : Nat} (h : a.grownBy w (some g)) (u : Value) : a.grownBy (w.setCell ⟨g, i, none⟩ u) (some g) :=
  ⟨h.os, h.tape, h.output, by simpa [World.setCell] using h.size, fun k hk hn => (Below.heap_setCell w ⟨g, i, none⟩ u k (fun e => hn (by rw [e]))).trans (h.block k hk hn)⟩
theorem gr_none (h : a.grownBy w none) (row : Option Nat) : a.grownBy w row := ⟨h.os, h.tape, h.output, h.size, fun i hi _ => h.block i hi (by simp)⟩
theorem gr_row {g : Nat} (h : a.grownBy w (some g)) (hg : a.heap.size ≤ g) : a.grownBy w none :=
  ⟨h.os, h.tape, h.output, h.size, fun i hi _ => h.block i hi (fun e => by injection e with e; omega)⟩
theorem gr_below (h : a.grownBy w none) : Below a.heap.size a w := ⟨h.os, h.tape, h.output, h.size, fun i hi => h.block i hi (by simp)⟩
theorem gr_drewN (h : a.grownBy w row) (n : Nat) : a.grownBy (w.drewN n) row := ⟨h.os, h.tape, h.output, h.size, h.block⟩
theorem below_drewN {B : Nat} (h : Below B a w) (n : Nat) : Below B a (w.drewN n) := ⟨h.os, h.tape, h.output, h.size, h.block⟩
theorem gr_drew (h : a.grownBy w row) : a.grownBy w.drew row := ⟨h.os, h.tape, h.output, h.size, h.block⟩
theorem gr_setRow {g : Nat} (h : a.grownBy w (some g)) (cs : Array Value) : a.grownBy (w.setRow g cs) (some g) :=
  ⟨h.os, h.tape, h.output, by simpa [World.setRow] using h.size, fun k hk hn => (setRow_other w g k cs (fun e => hn (by rw [e]))).trans (h.block k hk hn)⟩
end

theorem some_ne {a b : Nat} (h : a ≠ b) : some a ≠ some b := fun e => h (by injection e)

theorem addr_add (g o j : Nat) : (⟨g, o, none⟩ : Addr).add j = ⟨g, o + j, none⟩ := by unfold Addr.add; split <;> simp_all

/-! ### Memory behind its pointer -/
/-- At block p stands a struct with one slice: all of block g, which holds the bytes bs. -/
structure At (T E : TypeId) (w : World) (p g : Nat) (bs : List Int) : Prop where
  ptr : Row w p T [.slice (some ⟨g, 0, none⟩) bs.length bs.length]
  row : Row w g E (vals bs)
  byt : Byt bs
  len : bs.length ≤ 65536
section
variable {T E : TypeId} {w w' : World} {p g : Nat} {bs : List Int}
theorem At.head (h : At T E w p g bs) : w.cell? ⟨p, 0, none⟩ = some (.slice (some ⟨g, 0, none⟩) bs.length bs.length) := by rw [h.ptr.cell]; rfl
theorem At.cell (h : At T E w p g bs) {i : Nat} (hi : i < bs.length) : w.cell? ⟨g, i, none⟩ = some (.int .u8 (bs.getD i 0)) := by
  rw [h.row.cell, vals_get, List.getElem?_eq_getElem hi]; simp [List.getD, List.getElem?_eq_getElem hi]
theorem At.grown {row : Option Nat} (h : At T E w p g bs) (hb : w.grownBy w' row) (hp : some p ≠ row) (hg : some g ≠ row) : At T E w' p g bs :=
  ⟨h.ptr.grown hb hp, h.row.grown hb hg, h.byt, h.len⟩
theorem At.kept (h : At T E w p g bs) (hb : w.grownBy w' none) : At T E w' p g bs := h.grown hb (by simp) (by simp)
theorem At.drewN (h : At T E w p g bs) (n : Nat) : At T E (w.drewN n) p g bs := ⟨h.ptr, h.row, h.byt, h.len⟩
theorem At.drew (h : At T E w p g bs) : At T E w.drew p g bs := ⟨h.ptr, h.row, h.byt, h.len⟩
theorem At.ne (h : At T E w p g bs) (hTE : T ≠ E) : p ≠ g := h.ptr.apart h.row hTE
theorem At.set (h : At T E w p g bs) (hTE : T ≠ E) {i : Nat} {b : Int} (hi : i < bs.length) (hb : 0 ≤ b ∧ b ≤ 255) : At T E (w.setCell ⟨g, i, none⟩ (.int .u8 b)) p g (bs.set i b) := by
  refine ⟨?_, ?_, fun x hx => ?_, by simpa using h.len⟩
  · rw [List.length_set]; exact h.ptr.other (h.ne hTE) _
  · have := h.row.put i (.int .u8 b)
    simpa [vals, List.map_set] using this
  · rcases List.mem_or_eq_of_mem_set hx with h1 | rfl
    · exact h.byt x h1
    · exact hb
end

/-! ### A slice that shows bytes -/
/-- The slice (A, m) shows the bytes zs, and lies below block B. -/
def Shows (w : World) (B : Nat) (A : Option Addr) (m : Nat) (zs : List Int) : Prop :=
  zs.length = m ∧ Byt zs ∧ (0 < m → ∃ ad, A = some ad ∧ ad.block < B ∧ ∀ j, j < m → w.cell? (ad.add j) = some (.int .u8 (zs.getD j 0)))
section
variable {w w' : World} {B B' m : Nat} {A : Option Addr} {zs : List Int}
theorem add_block (a : Addr) (n : Nat) : (a.add n).block = a.block := by unfold Addr.add; split <;> rfl
theorem Shows.turn (h : Shows w B A m zs) (hk : ∀ a : Addr, a.block < B → w'.cell? a = w.cell? a) : Shows w' B A m zs :=
  ⟨h.1, h.2.1, fun hm => by
    obtain ⟨ad, e, hb, hc⟩ := h.2.2 hm
    exact ⟨ad, e, hb, fun j hj => (hk _ (by rw [add_block]; exact hb)).trans (hc j hj)⟩⟩
theorem Shows.below (h : Shows w B A m zs) (hb : Below B w w') : Shows w' B A m zs := h.turn fun _ ha => hb.cell ha
theorem Shows.more (h : Shows w B A m zs) (hB : B ≤ B') : Shows w B' A m zs :=
  ⟨h.1, h.2.1, fun hm => by
    obtain ⟨ad, e, hb, hc⟩ := h.2.2 hm
    exact ⟨ad, e, by omega, hc⟩⟩
theorem Shows.short (h : Shows w B A m zs) {k : Nat} (hk : k ≤ m) : Shows w B A k (zs.take k) := by
  refine ⟨by rw [List.length_take, h.1]; omega, take_byt h.2.1 _, fun hp => ?_⟩
  obtain ⟨ad, e, hb, hc⟩ := h.2.2 (by omega)
  refine ⟨ad, e, hb, fun j hj => (hc j (by omega)).trans ?_⟩
  simp [List.getD, hj]
end
/-- A row of bytes, from its head on. -/
theorem Row.shows {w : World} {g : Nat} {t : TypeId} {bs : List Int} (h : Row w g t (vals bs)) (hb : Byt bs) : Shows w (g + 1) (some ⟨g, 0, none⟩) bs.length bs :=
  ⟨rfl, hb, fun _ => ⟨_, rfl, by simp, fun j hj => by
    have : (⟨g, 0, none⟩ : Addr).add j = ⟨g, j, none⟩ := by unfold Addr.add; split <;> simp_all
    rw [this, h.cell, vals_get, List.getElem?_eq_getElem hj]; simp [List.getD, List.getElem?_eq_getElem hj]⟩⟩
theorem made_vals (n : Nat) : madeCells #[Value.int .u8 0] n = (vals (List.replicate n 0)).toArray := by
  apply Array.ext
  · simp [madeCells, vals]
  · intro i h1 h2
    simp [madeCells, vals, Nat.mod_one]
theorem vals_one (l : List Int) : ∀ v ∈ vals l, v.oneCell' = true := by
  intro v hv
  simp only [vals, List.mem_map] at hv
  obtain ⟨b, _, rfl⟩ := hv
  rfl
theorem Shows.src {w : World} {B m : Nat} {ad : Addr} {zs : List Int} (h : Shows w B (some ad) m zs) : ∀ j v, (vals zs)[j]? = some v → w.cell? (ad.add j) = some v := by
  intro j v hv
  rw [vals_get] at hv
  obtain ⟨b, hb, rfl⟩ := Option.map_eq_some_iff.1 hv
  have hj : j < zs.length := (List.getElem?_eq_some_iff.1 hb).1
  obtain ⟨ad', e, _, hc⟩ := h.2.2 (by have := h.1; omega)
  injection e with e
  subst e
  rw [hc j (by have := h.1; omega)]
  simp [List.getD, hb]
theorem At.setRow {T E : TypeId} {w : World} {p g : Nat} {bs cs : List Int} (h : At T E w p g bs) (hTE : T ≠ E) (hl : cs.length = bs.length) (hb : Byt cs) : At T E (w.setRow g (vals cs).toArray) p g cs := by
  refine ⟨?_, setRow_heap w g _ _ _ _ h.row, hb, by rw [hl]; exact h.len⟩
  rw [hl]
  exact (setRow_other w g p _ (h.ne hTE)).trans h.ptr
theorem splice_vals (bs zs : List Int) (o : Nat) : ((vals bs).take o ++ (vals zs ++ (vals bs).drop (o + (vals zs).length))) = vals (splice bs o zs) := by
  rw [vals, vals, vals, splice_map]; rfl

theorem row_filled (w : World) (t : TypeId) (l cs : List Value) : Row ((w.alloc (.cells l.toArray t)).setRow w.heap.size cs.toArray) w.heap.size t cs :=
  setRow_heap _ _ _ _ _ _ (Row.fresh w t l)
theorem gr_filled (w : World) (o : Obj) (cs : Array Value) : w.grownBy ((w.alloc o).setRow w.heap.size cs) none :=
  ⟨rfl, rfl, rfl, by simp [World.setRow], fun i hi _ => (setRow_other _ _ _ _ (by omega)).trans (Below.heap_alloc w o i hi)⟩

end Go.Proofs.YtajamfnadnonoaaDoor.M
