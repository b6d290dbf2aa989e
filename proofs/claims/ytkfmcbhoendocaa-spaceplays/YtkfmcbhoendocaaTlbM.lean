/-
  A row of leaves in memory, behind its pointer: what stands, what a step leaves of it.
  Conditions: none.
-/
import Derived.Test.YtkfmcbhoendocaaTlbV
import Derived.Test.YtkfmcbhoendocaaRamM
import Derived.Laws.AppendOwn
import Derived.ArgAppend
import Derived.Lib.SliceRun
namespace Go.Proofs.Ytkfmcbhoendocaa.T
open Go Go.RowKit W D A P M
set_option linter.unusedVariables false

/-- The slice owns the leaves: nil and none, or a row from block B on that begins with them. -/
def Arr (E : TypeId) (w : World) (B : Nat) (v : Value) (L : List Lf) : Prop := w.ownsRow B E 5 v L.length (flat L)
/-- The same, written out. -/
structure Laid (E : TypeId) (w : World) (g : Nat) (cap : Nat) (cur : List Value) (L : List Lf) : Prop where
  row : Row w g E cur
  len : cur.length = cap * 5
  le : L.length ≤ cap
  cap : cap ≤ maxLen
  tk : cur.take (L.length * 5) = flat L
section
variable {E : TypeId} {w w' : World} {B g cap : Nat} {v : Value} {cur : List Value} {L M : List Lf}
theorem Arr.nil (E : TypeId) (w : World) (B : Nat) : Arr E w B (.slice none 0 0) [] := World.ownsRow_nil w B E 5
theorem Laid.arr (h : Laid E w g cap cur L) (hB : B ≤ g) : Arr E w B (.slice (some ⟨g, 0, none⟩) L.length cap) L :=
  ⟨flat_length L, .inr ⟨g, cap, cur.toArray, rfl, hB, h.row, h.le, h.cap, by simpa using h.len, by simpa using h.tk⟩⟩
theorem Arr.parts (h : Arr E w B v L) : (v = .slice none 0 0 ∧ L = []) ∨ ∃ g cap cur, v = .slice (some ⟨g, 0, none⟩) L.length cap ∧ B ≤ g ∧ Laid E w g cap cur L := by
  rcases h.2 with ⟨h1, h2⟩ | ⟨g, cap, cur, h1, h2, h3, h4, h5, h6, h7⟩
  · exact .inl ⟨h1, List.eq_nil_of_length_eq_zero h2⟩
  · exact .inr ⟨g, cap, cur.toList, h1, h2, ⟨show w.heap[g]? = some (.cells cur.toList.toArray E (0, 0)) by rw [Array.toArray_toList]; exact h3, by simpa using h6, h4, h5, h7⟩⟩
theorem Arr.shape (h : Arr E w B v L) : v = .slice none 0 0 ∨ ∃ g n cap, v = .slice (some ⟨g, 0, none⟩) n cap := by
  rcases h.parts with ⟨rfl, -⟩ | ⟨g, cap, cur, rfl, -⟩
  · exact .inl rfl
  · exact .inr ⟨g, _, cap, rfl⟩
theorem Laid.cell (h : Laid E w g cap cur L) {i : Nat} {k : Lf} (hi : L[i]? = some k) {c : Nat} (hc : c < 5) : w.cell? ⟨g, i * 5 + c, none⟩ = (cellsT k)[c]? := by
  have hl := (List.getElem?_eq_some_iff.1 hi).1
  rw [h.row.cell, ← flat_get hi hc, ← h.tk, List.getElem?_take_of_lt (by omega)]
theorem Laid.cells (h : Laid E w g cap cur L) {i : Nat} {k : Lf} (hi : L[i]? = some k) :
    w.cell? ⟨g, i * 5, none⟩ = some (.int .u64 k.va) ∧ w.cell? ⟨g, i * 5 + 1, none⟩ = some (.int .u64 k.asid) ∧ w.cell? ⟨g, i * 5 + 2, none⟩ = some (.int .u64 k.pte) ∧ w.cell? ⟨g, i * 5 + 3, none⟩ = some (.int .i64 k.lev) ∧ w.cell? ⟨g, i * 5 + 4, none⟩ = some (.bool k.glob) :=
  ⟨h.cell hi (c := 0) (by omega), h.cell hi (c := 1) (by omega), h.cell hi (c := 2) (by omega), h.cell hi (c := 3) (by omega), h.cell hi (c := 4) (by omega)⟩
theorem Laid.keep {row : Option Nat} (h : Laid E w g cap cur L) (hg : w.grownBy w' row) (hn : some g ≠ row) : Laid E w' g cap cur L := ⟨h.row.grown hg hn, h.len, h.le, h.cap, h.tk⟩
theorem Laid.drewN (h : Laid E w g cap cur L) (n : Nat) : Laid E (w.drewN n) g cap cur L := ⟨h.row, h.len, h.le, h.cap, h.tk⟩
theorem Arr.keep {row : Option Nat} (h : Arr E w B v L) (hg : w.grownBy w' row) (hn : v.ownBlock = none ∨ v.ownBlock ≠ row) : Arr E w' B v L := World.ownsRow.kept h hg hn
theorem Arr.kept (h : Arr E w B v L) (hg : w.grownBy w' none) : Arr E w' B v L := h.keep hg (by cases v.ownBlock <;> simp)
theorem Arr.drewN (h : Arr E w B v L) (n : Nat) : Arr E (w.drewN n) B v L := h
theorem Arr.less (h : Arr E w B v L) {B' : Nat} (hB : B' ≤ B) : Arr E w B' v L := by
  rcases h.parts with ⟨rfl, rfl⟩ | ⟨g, cap, cur, rfl, hb, hl⟩
  · exact Arr.nil E w B'
  · exact hl.arr (by omega)
theorem Arr.ne {t : TypeId} {l : List Value} {p : Nat} (h : Arr E w B v L) (hp : Row w p t l) (ht : t ≠ E) : some p ≠ v.ownBlock := by
  rcases h.parts with ⟨rfl, rfl⟩ | ⟨g, cap, cur, rfl, hb, hl⟩
  · simp [Value.ownBlock]
  · have := hp.apart hl.row ht
    simpa [Value.ownBlock] using this
theorem Arr.lt (h : Arr E w B v L) {k : Nat} (hk : v.ownBlock = some k) : B ≤ k ∧ k < w.heap.size := World.ownsRow.lt h k hk
end

/-! ### Steps that leave all but two blocks -/
/-- What was there is there, but for block p and the row of v. -/
structure But (p : Nat) (v : Value) (w w' : World) : Prop where
  os : w'.os = w.os
  tape : w'.tape = w.tape
  output : w'.output = w.output
  size : w.heap.size ≤ w'.heap.size
  block : ∀ k, k < w.heap.size → k ≠ p → some k ≠ v.ownBlock → w'.heap[k]? = w.heap[k]?
section
variable {a b c w w' : World} {p : Nat} {v v' : Value}
theorem But.refl (p : Nat) (v : Value) (w : World) : But p v w w := ⟨rfl, rfl, rfl, Nat.le_refl _, fun _ _ _ _ => rfl⟩
theorem But.of_none (h : a.grownBy b none) (p : Nat) (v : Value) : But p v a b := ⟨h.os, h.tape, h.output, h.size, fun k hk _ _ => h.block k hk (by simp)⟩
theorem But.of_ptr (h : a.grownBy b (some p)) (v : Value) : But p v a b := ⟨h.os, h.tape, h.output, h.size, fun k hk hp _ => h.block k hk (some_ne hp)⟩
theorem But.of_row (h : a.grownBy b v.ownBlock) (p : Nat) : But p v a b := ⟨h.os, h.tape, h.output, h.size, fun k hk _ hv => h.block k hk hv⟩
/-- Behind a step whose row is another one, but new or the same. -/
theorem But.trans (h : But p v a b) (k : But p v' b c) (hv : ∀ g, v'.ownBlock = some g → v.ownBlock = some g ∨ a.heap.size ≤ g) : But p v a c :=
  ⟨k.os.trans h.os, k.tape.trans h.tape, k.output.trans h.output, Nat.le_trans h.size k.size, fun i hi hp hi2 => (k.block i (Nat.lt_of_lt_of_le hi h.size) hp (fun e => by
    rcases hv i e.symm with h1 | h1
    · exact hi2 h1.symm
    · omega)).trans (h.block i hi hp hi2)⟩
theorem But.trans_same (h : But p v a b) (k : But p v b c) : But p v a c := h.trans k fun _ hg => .inl hg
theorem But.row {g : Nat} {t : TypeId} {l : List Value} (h : But p v w w') (hr : Row w g t l) (hp : g ≠ p) (hv : some g ≠ v.ownBlock) : Row w' g t l := (h.block g hr.lt hp hv).trans hr
theorem But.drewN (h : But p v w w') (n : Nat) : But p v w (w'.drewN n) := ⟨h.os, h.tape, h.output, h.size, h.block⟩
theorem But.set (h : But p v w w') (i : Nat) (u : Value) : But p v w (w'.setCell ⟨p, i, none⟩ u) :=
  h.trans_same (But.of_ptr (gr_set (gr_refl w' (some p)) u) v)
theorem But.alloc (h : But p v w w') (o : Obj) : But p v w (w'.alloc o) := h.trans_same (But.of_none (gr_alloc (gr_refl w' none) o) p v)
theorem But.below {B : Nat} (h : But p v w w') (hp : B ≤ p) (hv : ∀ g, v.ownBlock = some g → B ≤ g) (hB : B ≤ w.heap.size) : Below B w w' :=
  ⟨h.os, h.tape, h.output, h.size, fun k hk => h.block k (by omega) (by omega) (fun e => by have := hv k e.symm; omega)⟩
end

/-- A row of leaves, how many there may be, and how many walks there were, behind a pointer. -/
structure Held (T E : TypeId) (w : World) (B p : Nat) (most : Nat) (v : Value) (n : Int) (L : List Lf) : Prop where
  ptr : Row w p T [.int .i64 most, v, .int .u64 n]
  arr : Arr E w B v L
  fine : ∀ k ∈ L, Fine k
  le : L.length ≤ most
  most : most ≤ 8
  own : B ≤ p
  num : B64 n
section
variable {T E : TypeId} {w w' : World} {B p most : Nat} {v : Value} {n : Int} {L : List Lf}
theorem Held.kept (h : Held T E w B p most v n L) (hg : w.grownBy w' none) : Held T E w' B p most v n L := ⟨h.ptr.grown hg (by simp), h.arr.kept hg, h.fine, h.le, h.most, h.own, h.num⟩
theorem Held.drewN (h : Held T E w B p most v n L) (N : Nat) : Held T E (w.drewN N) B p most v n L := ⟨h.ptr, h.arr.drewN N, h.fine, h.le, h.most, h.own, h.num⟩
theorem Held.c0 (h : Held T E w B p most v n L) : w.cell? ⟨p, 0, none⟩ = some (.int .i64 most) := by rw [h.ptr.cell]; rfl
theorem Held.c1 (h : Held T E w B p most v n L) : w.cell? ⟨p, 1, none⟩ = some v := by rw [h.ptr.cell]; rfl
theorem Held.c2 (h : Held T E w B p most v n L) : w.cell? ⟨p, 2, none⟩ = some (.int .u64 n) := by rw [h.ptr.cell]; rfl
/-- The slice behind the pointer is another one now. -/
theorem Held.stored {w1 : World} {v' : Value} {L' : List Lf} (h : Held T E w B p most v n L) (hTE : T ≠ E) (hb : But p v w w1) (hr : Row w1 p T [.int .i64 most, v, .int .u64 n]) (hA : Arr E w1 B v' L') (hf : ∀ k ∈ L', Fine k) (hl : L'.length ≤ most) :
    Held T E (w1.setCell ⟨p, 1, none⟩ v') B p most v' n L' ∧ But p v w (w1.setCell ⟨p, 1, none⟩ v') := by
  have hn := hA.ne hr hTE
  refine ⟨⟨hr.put 1 v', hA.keep (gr_set (gr_refl w1 (some p)) v') ?_, hf, hl, h.most, h.own, h.num⟩, hb.set 1 v'⟩
  rcases hv : v'.ownBlock with _ | g
  · exact .inl rfl
  · right
    rw [hv] at hn
    exact fun e => hn e.symm
/-- Another row that stands elsewhere stays. -/
theorem Held.other {T' E' : TypeId} {B' p' m' : Nat} {v' : Value} {n' : Int} {L' : List Lf} (h : Held T E w B p most v n L) (hb : But p' v' w w') (hp : p ≠ p') (hv : ∀ g, v.ownBlock = some g → g ≠ p' ∧ v'.ownBlock ≠ some g) (hpv : some p ≠ v'.ownBlock) :
    Held T E w' B p most v n L := by
  refine ⟨hb.row h.ptr hp hpv, ?_, h.fine, h.le, h.most, h.own, h.num⟩
  rcases h.arr.parts with ⟨rfl, rfl⟩ | ⟨g, cap, cur, rfl, hB, hl⟩
  · exact Arr.nil E w' B
  · have := hv g rfl
    exact Laid.arr ⟨hb.row hl.row this.1 this.2.symm, hl.len, hl.le, hl.cap, hl.tk⟩ hB
end
end Go.Proofs.Ytkfmcbhoendocaa.T
