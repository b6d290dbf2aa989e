/-
  What a space stands on, in memory; steps that leave all but its own.
  Conditions: none.
-/
import Derived.Test.YtkfmcbhoendocaaLayS
import Derived.Test.YtkfmcbhoendocaaTlbL
namespace Go.Proofs.Ytkfmcbhoendocaa
open Go Go.RowKit W M D A C P K
set_option linter.unusedVariables false

/-- What was there is there: below B all of it, and every row but of leaves and memory's own. -/
structure Fr (B gm : Nat) (w w' : World) : Prop where
  os : w'.os = w.os
  tape : w'.tape = w.tape
  output : w'.output = w.output
  size : w.heap.size ≤ w'.heap.size
  low : ∀ k, k < B → k < w.heap.size → w'.heap[k]? = w.heap[k]?
  row : ∀ {g : Nat} {t : TypeId} {l : List Value}, Row w g t l → t ≠ 122 → t ≠ 135 → g ≠ gm → Row w' g t l
theorem Fr.refl (B gm : Nat) (w : World) : Fr B gm w w := ⟨rfl, rfl, rfl, Nat.le_refl _, fun _ _ _ => rfl, fun h _ _ _ => h⟩
theorem Fr.trans {B gm : Nat} {a b c : World} (h : Fr B gm a b) (k : Fr B gm b c) : Fr B gm a c :=
  ⟨k.os.trans h.os, k.tape.trans h.tape, k.output.trans h.output, Nat.le_trans h.size k.size, fun i hi hs => (k.low i hi (Nat.lt_of_lt_of_le hs h.size)).trans (h.low i hi hs), fun hr h1 h2 h3 => k.row (h.row hr h1 h2 h3) h1 h2 h3⟩
theorem Fr.of_none {w w' : World} (h : w.grownBy w' none) (B gm : Nat) : Fr B gm w w' := ⟨h.os, h.tape, h.output, h.size, fun k _ hs => h.block k hs (by simp), fun hr _ _ _ => hr.grown h (by simp)⟩
theorem Fr.of_mem {w w' : World} {gm : Nat} (h : w.grownBy w' (some gm)) {B : Nat} (hB : B ≤ gm) : Fr B gm w w' :=
  ⟨h.os, h.tape, h.output, h.size, fun k hk hs => h.block k hs (some_ne (by omega)), fun hr _ _ hg => hr.grown h (some_ne hg)⟩
theorem Fr.of_held {w w' : World} {B p most : Nat} {v : Value} {n : Int} {L : List T.Lf} (h : HAt w B p most v n L) (hb : T.But p v w w') (gm : Nat) : Fr B gm w w' :=
  ⟨hb.os, hb.tape, hb.output, hb.size, fun k hk hs => hb.block k hs (by have := h.own; omega) (fun e => by have := (h.arr.lt e.symm).1; omega), fun hr h1 h2 _ => held_row h hb hr h1 h2⟩
theorem Fr.grown {w0 w w' : World} {B gm : Nat} (h : Fr B gm w w') (h0 : w0.grownBy w none) (hB : w0.heap.size ≤ B) : w0.grownBy w' none :=
  ⟨h.os.trans h0.os, h.tape.trans h0.tape, h.output.trans h0.output, Nat.le_trans h0.size h.size, fun k hk _ => (h.low k (by omega) (by have := h0.size; omega)).trans (h0.block k hk (by simp))⟩
theorem Fr.alloc {B gm : Nat} {w w' : World} (h : Fr B gm w w') (o : Obj) : Fr B gm w (w'.alloc o) := h.trans (Fr.of_none (gr_alloc (gr_refl _ _) o) B gm)
theorem Fr.drew {B gm : Nat} {w w' : World} (h : Fr B gm w w') : Fr B gm w w'.drew := ⟨h.os, h.tape, h.output, h.size, h.low, h.row⟩
theorem Fr.less {B B' gm : Nat} {w w' : World} (h : Fr B gm w w') (hB : B' ≤ B) : Fr B' gm w w' := ⟨h.os, h.tape, h.output, h.size, fun k hk => h.low k (by omega), h.row⟩
theorem Fr.drewN {B gm : Nat} {w w' : World} (h : Fr B gm w w') (n : Nat) : Fr B gm w (w'.drewN n) := ⟨h.os, h.tape, h.output, h.size, h.low, h.row⟩

/-- A row of leaves behind a pointer, or none. -/
def Tk (w : World) (B : Nat) (t : Option Nat) (most : Nat) (n : Int) (L : List T.Lf) : Prop :=
  match t with
  | none => most = 0 ∧ L = []
  | some p => ∃ v, HAt w B p most v n L
def vT (t : Option Nat) : Value := .pointer (t.map fun p => ⟨p, 0, none⟩)
def vS (pm : Nat) (t : Option Nat) : Value := .agg #[.pointer (some ⟨pm, 0, none⟩), vT t]
/-- Memory, and what keeps leaves, if something does. -/
structure Spc (w : World) (B pm gm : Nat) (bs : List Int) (t : Option Nat) (most : Nat) (n : Int) (L : List T.Lf) : Prop where
  mem : RAt w pm gm bs
  own : B ≤ gm
  tl : Tk w B t most n L
section
variable {w w' : World} {B pm gm : Nat} {bs : List Int} {t : Option Nat} {most : Nat} {n : Int} {L : List T.Lf}
theorem Spc.keep (h : Spc w B pm gm bs t most n L) (hg : w.grownBy w' none) : Spc w' B pm gm bs t most n L := by
  refine ⟨h.mem.kept hg, h.own, ?_⟩
  have := h.tl
  unfold Tk at *
  split at this
  · exact this
  · obtain ⟨v, hv⟩ := this
    exact ⟨v, hv.kept hg⟩
theorem Spc.le (h : Spc w B pm gm bs t most n L) : B ≤ w.heap.size := by have := h.own; have := h.mem.row.lt; omega
theorem Spc.drew (h : Spc w B pm gm bs t most n L) : Spc w.drew B pm gm bs t most n L := by
  refine ⟨h.mem.drew, h.own, ?_⟩
  have := h.tl
  unfold Tk at *
  split at this
  · exact this
  · obtain ⟨v, hv⟩ := this
    exact ⟨v, hv.ptr, hv.arr, hv.fine, hv.le, hv.most, hv.own, hv.num⟩
/-- Memory is other, the row is as it was. -/
theorem Spc.wrote {bs' : List Int} (h : Spc w B pm gm bs t most n L) (hg : w.grownBy w' (some gm)) (hm : RAt w' pm gm bs') : Spc w' B pm gm bs' t most n L := by
  refine ⟨hm, h.own, ?_⟩
  have := h.tl
  unfold Tk at *
  split at this
  · exact this
  · obtain ⟨v, hv⟩ := this
    refine ⟨v, hv.ptr.grown hg (some_ne (hv.ptr.apart h.mem.row (by decide))), hv.arr.keep hg ?_, hv.fine, hv.le, hv.most, hv.own, hv.num⟩
    have := hv.arr.ne h.mem.row (by decide)
    exact .inr fun e => this e.symm
/-- Three cells of another block are written. -/
theorem Spc.set (h : Spc w B pm gm bs t most n L) {g : Nat} {t' : TypeId} {l' : List Value} (hr : Row w g t' l') (h1 : 122 ≠ t') (h2 : t' ≠ 135) (h3 : 161 ≠ t') (h4 : 5 ≠ t') {w' : World} (hg : w.grownBy w' (some g)) : Spc w' B pm gm bs t most n L := by
  refine ⟨h.mem.grown hg (some_ne (h.mem.ptr.apart hr h3)) (some_ne (h.mem.row.apart hr h4)), h.own, ?_⟩
  have := h.tl
  unfold Tk at *
  split at this
  · exact this
  · obtain ⟨v, hv⟩ := this
    refine ⟨v, hv.ptr.grown hg (some_ne (hv.ptr.apart hr h1)), hv.arr.keep hg ?_, hv.fine, hv.le, hv.most, hv.own, hv.num⟩
    have := hv.arr.ne hr h2
    exact .inr fun e => this e.symm
theorem gr_set3 (w : World) (g : Nat) (x y z : Value) : w.grownBy (((w.setCell ⟨g, 0, none⟩ x).setCell ⟨g, 1, none⟩ y).setCell ⟨g, 2, none⟩ z) (some g) := gr_set (gr_set (gr_set (gr_refl w (some g)) x) y) z
/-- A block of the call's own is other now. -/
theorem Fr.own {w w1 w2 : World} {B gm g : Nat} (h : Fr B gm w w1) (hg : w1.grownBy w2 (some g)) (hB : B ≤ g) (hs : w.heap.size ≤ g) : Fr B gm w w2 :=
  ⟨hg.os.trans h.os, hg.tape.trans h.tape, hg.output.trans h.output, Nat.le_trans h.size hg.size, fun k hk hk2 => (hg.block k (by have := h.size; omega) (some_ne (by omega))).trans (h.low k hk hk2),
   fun hr h1 h2 h3 => (h.row hr h1 h2 h3).grown hg (some_ne (by have := hr.lt; omega))⟩
/-- A fault of the call's own is written. -/
theorem fault_own {w w1 : World} {B pm gm g : Nat} {bs : List Int} {t : Option Nat} {most : Nat} {n : Int} {L : List T.Lf} {a b c : Value} (h : Spc w1 B pm gm bs t most n L) (hf : Fr B gm w w1) (hr : Row w1 g 48 [a, b, c]) (hs : w.heap.size ≤ g) (hB : B ≤ w.heap.size) (x y z : Value) :
    Row (((w1.setCell ⟨g, 0, none⟩ x).setCell ⟨g, 1, none⟩ y).setCell ⟨g, 2, none⟩ z) g 48 [x, y, z] ∧ Spc (((w1.setCell ⟨g, 0, none⟩ x).setCell ⟨g, 1, none⟩ y).setCell ⟨g, 2, none⟩ z) B pm gm bs t most n L ∧ Fr B gm w (((w1.setCell ⟨g, 0, none⟩ x).setCell ⟨g, 1, none⟩ y).setCell ⟨g, 2, none⟩ z) :=
  ⟨put3 hr x y z, h.set hr (by decide) (by decide) (by decide) (by decide) (gr_set3 w1 g x y z), hf.own (gr_set3 w1 g x y z) (by omega) hs⟩
theorem fault_free {w : World} {g : Nat} {x y z : Value} (h : Row w g 48 [x, y, z]) : (w.cell? ⟨g, 0, none⟩ = some x ∧ w.cell? ⟨g, 1, none⟩ = some y ∧ w.cell? ⟨g, 2, none⟩ = some z) ∧ (∀ i, w.frozen? ⟨g, i, none⟩ = false) ∧ g < w.heap.size := ⟨cells3 h, h.free, h.lt⟩
theorem Tk.fine (h : Tk w B t most n L) : ∀ k ∈ L, T.Fine k := by
  unfold Tk at h
  split at h
  · rw [h.2]; intro k hk; cases hk
  · obtain ⟨v, hv⟩ := h; exact hv.fine
end
end Go.Proofs.Ytkfmcbhoendocaa
