/-
  What stands while To goes on: the registers, an empty fault; memory; the row of leaves.
  Conditions: none.
-/
import Derived.Test.YtkfmcbhoendocaaTlbQ
import Derived.Test.YtkfmcbhoendocaaTlbA
import Derived.Test.YtkfmcbhoendocaaWalkT
namespace Go.Proofs.Ytkfmcbhoendocaa
open Go Go.RowKit W M D A C P K
set_option linter.unusedVariables false

theorem held_row {w w' : World} {B p most : Nat} {v : Value} {n : Int} {L : List T.Lf} {g : Nat} {t : TypeId} {l : List Value} (h : HAt w B p most v n L) (hb : T.But p v w w') (hr : Row w g t l) (ht : t ≠ 122) (ht' : t ≠ 135) : Row w' g t l :=
  hb.row hr (hr.apart h.ptr ht) (h.arr.ne hr ht')
theorem held_ram {w w' : World} {B p most : Nat} {v : Value} {n : Int} {L : List T.Lf} {pm gm : Nat} {bs : List Int} (h : HAt w B p most v n L) (hb : T.But p v w w') (hm : RAt w pm gm bs) : RAt w' pm gm bs :=
  ⟨held_row h hb hm.ptr (by decide) (by decide), held_row h hb hm.row (by decide) (by decide), hm.byt, hm.len⟩
theorem held_miss {w : World} {B p most : Nat} {v : Value} {n : Int} {L : List T.Lf} (h : HAt w B p most v n L) {x : Int} (hx : B64 x) : HAt (w.setCell ⟨p, 2, none⟩ (.int .u64 x)) B p most v x L ∧ T.But p v w (w.setCell ⟨p, 2, none⟩ (.int .u64 x)) := by
  have hn := h.arr.ne h.ptr (by decide)
  refine ⟨⟨h.ptr.put 2 (.int .u64 x), h.arr.keep (gr_set (gr_refl w (some p)) _) ?_, h.fine, h.le, h.most, h.own, hx⟩, (T.But.refl p v w).set 2 _⟩
  rcases hv : v.ownBlock with _ | g
  · exact .inl rfl
  · right
    rw [hv] at hn
    exact fun e => hn e.symm
/-- Three cells of a block of the call's own. -/
theorem but_own {w w' : World} {p : Nat} {v : Value} (h : T.But p v w w') {g : Nat} (hg : w.heap.size ≤ g) (x y z : Value) : T.But p v w (((w'.setCell ⟨g, 0, none⟩ x).setCell ⟨g, 1, none⟩ y).setCell ⟨g, 2, none⟩ z) :=
  ⟨h.os, h.tape, h.output, by simpa [World.setCell] using h.size, fun k hk hp hv => by
    have := h.block k hk hp hv
    rw [← this]
    have e : k ≠ g := by omega
    rw [Below.heap_setCell _ _ _ _ e, Below.heap_setCell _ _ _ _ e, Below.heap_setCell _ _ _ _ e]⟩
theorem turned_own {w w' : World} {B p most : Nat} {v : Value} {n : Int} {L : List T.Lf} (h : Turned w B p most v n L w') {g : Nat} {t : TypeId} {l : List Value} (hr : Row w' g t l) (ht : t ≠ 122) (ht' : t ≠ 135) (hg : w.heap.size ≤ g) (x y z : Value) :
    Turned w B p most v n L (((w'.setCell ⟨g, 0, none⟩ x).setCell ⟨g, 1, none⟩ y).setCell ⟨g, 2, none⟩ z) := by
  obtain ⟨v', hh, ho, hb⟩ := h
  have hp : p ≠ g := hh.ptr.apart hr (fun e => ht e.symm)
  have hv := hh.arr.ne hr ht'
  refine ⟨v', ⟨((hh.ptr.other hp _).other hp _).other hp _, hh.arr.keep (gr_set (gr_set (gr_set (gr_refl w' (some g)) _) _) _) ?_, hh.fine, hh.le, hh.most, hh.own, hh.num⟩, ho, but_own hb hg x y z⟩
  rcases hq : v'.ownBlock with _ | g'
  · exact .inl rfl
  · right
    rw [hq] at hv
    exact fun e => hv e.symm
/-- What stands while To goes on. -/
structure Gip (w : World) (b pm gm : Nat) (bs : List Int) (c : Cs) (B p most : Nat) (v : Value) (n : Int) (L : List T.Lf) (wr : World) : Prop where
  csr : Row wr b 24 (lC c)
  flt : Row wr (b + 1) 48 (lFault false 0 0)
  mem : RAt wr pm gm bs
  row : HAt wr B p most v n L
  but : T.But p v w wr
  sz : w.heap.size = b
section
variable {w wr ws : World} {b pm gm : Nat} {bs : List Int} {c : Cs} {B p most : Nat} {v : Value} {n : Int} {L : List T.Lf}
theorem Gip.keep (h : Gip w b pm gm bs c B p most v n L wr) (hg : wr.grownBy ws none) : Gip w b pm gm bs c B p most v n L ws :=
  ⟨h.csr.grown hg (by simp), h.flt.grown hg (by simp), h.mem.kept hg, h.row.kept hg, h.but.trans_same (T.But.of_none hg p v), h.sz⟩
theorem Gip.start (w : World) (hm : RAt w pm gm bs) (h : HAt w B p most v n L) : Gip w w.heap.size pm gm bs c B p most v n L ((w.alloc (.cells (lC c).toArray 24)).alloc (.cells (lFault false 0 0).toArray 48)) := by
  have a0 := Row.fresh w 24 (lC c)
  have a1 := Row.fresh (w.alloc (.cells (lC c).toArray 24)) 48 (lFault false 0 0)
  rw [show (w.alloc (.cells (lC c).toArray 24)).heap.size = w.heap.size + 1 from Array.size_push ..] at a1
  have hg := gr_alloc (gr_alloc (gr_refl w none) (.cells (lC c).toArray 24)) (.cells (lFault false 0 0).toArray 48)
  exact ⟨a0.alloc _, a1, hm.kept hg, h.kept hg, T.But.of_none hg p v, rfl⟩
theorem Gip.miss (h : Gip w b pm gm bs c B p most v n L wr) {x : Int} (hx : B64 x) : Gip w b pm gm bs c B p most v x L (wr.setCell ⟨p, 2, none⟩ (.int .u64 x)) := by
  have k := held_miss h.row hx
  exact ⟨held_row h.row k.2 h.csr (by decide) (by decide), held_row h.row k.2 h.flt (by decide) (by decide), held_ram h.row k.2 h.mem, k.1, h.but.trans_same k.2, h.sz⟩
/-- The fault is written; the row is as it was. -/
theorem Gip.done (h : Gip w b pm gm bs c B p most v n L wr) (u x y : Value) :
    Row (((wr.setCell ⟨b + 1, 0, none⟩ u).setCell ⟨b + 1, 1, none⟩ x).setCell ⟨b + 1, 2, none⟩ y) (b + 1) 48 [u, x, y] ∧
    Turned w B p most v n L (((wr.setCell ⟨b + 1, 0, none⟩ u).setCell ⟨b + 1, 1, none⟩ x).setCell ⟨b + 1, 2, none⟩ y) := by
  have s := h.sz
  exact ⟨put3 h.flt _ _ _, turned_own ⟨v, h.row, fun g hg => .inl hg, h.but⟩ h.flt (by decide) (by decide) (by omega) u x y⟩
/-- The same behind a Put. -/
theorem Gip.done_put {n' : Int} {L' : List T.Lf} (h : Gip w b pm gm bs c B p most v n L wr) (ht : Turned wr B p most v n' L' ws) (u x y : Value) :
    Row (((ws.setCell ⟨b + 1, 0, none⟩ u).setCell ⟨b + 1, 1, none⟩ x).setCell ⟨b + 1, 2, none⟩ y) (b + 1) 48 [u, x, y] ∧
    Turned w B p most v n' L' (((ws.setCell ⟨b + 1, 0, none⟩ u).setCell ⟨b + 1, 1, none⟩ x).setCell ⟨b + 1, 2, none⟩ y) := by
  have s := h.sz
  obtain ⟨v', hh, ho, hb⟩ := ht
  have hf := held_row h.row hb h.flt (by decide) (by decide)
  have hz := h.but.size
  refine ⟨put3 hf _ _ _, turned_own ⟨v', hh, fun g hg => ?_, h.but.trans_same hb⟩ hf (by decide) (by decide) (by omega) u x y⟩
  rcases ho g hg with h1 | h1
  · exact .inl h1
  · exact .inr (by omega)
/-- Three cells of another block of the call's own are written. -/
theorem Gip.set3 (h : Gip w b pm gm bs c B p most v n L wr) {g : Nat} {t : TypeId} {l : List Value} (hr : Row wr g t l) (ht : t ≠ 122) (ht' : t ≠ 135) (h1 : t ≠ 161) (h2 : t ≠ 5) (hg : b + 1 < g) (x y z : Value) :
    Gip w b pm gm bs c B p most v n L (((wr.setCell ⟨g, 0, none⟩ x).setCell ⟨g, 1, none⟩ y).setCell ⟨g, 2, none⟩ z) := by
  have hp : p ≠ g := h.row.ptr.apart hr (fun e => ht e.symm)
  have hv := h.row.arr.ne hr ht'
  have hm : pm ≠ g := h.mem.ptr.apart hr (fun e => h1 e.symm)
  have hm2 : gm ≠ g := h.mem.row.apart hr (fun e => h2 e.symm)
  have s := h.sz
  refine ⟨oth3 h.csr (by omega) _ _ _, oth3 h.flt (by omega) _ _ _, ⟨oth3 h.mem.ptr hm _ _ _, oth3 h.mem.row hm2 _ _ _, h.mem.byt, h.mem.len⟩,
    ⟨oth3 h.row.ptr hp _ _ _, h.row.arr.keep (gr_set (gr_set (gr_set (gr_refl wr (some g)) _) _) _) ?_, h.row.fine, h.row.le, h.row.most, h.row.own, h.row.num⟩, but_own h.but (by omega) x y z, s⟩
  rcases hq : v.ownBlock with _ | g'
  · exact .inl rfl
  · right
    rw [hq] at hv
    exact fun e => hv e.symm
theorem Gip.facts (h : Gip w b pm gm bs c B p most v n L wr) :
    (wr.cell? ⟨b + 1, 0, none⟩ = some (.bool false) ∧ wr.cell? ⟨b + 1, 1, none⟩ = some (.int .i64 0) ∧ wr.cell? ⟨b + 1, 2, none⟩ = some (.int .u64 0)) ∧
    (∀ i, wr.frozen? ⟨b + 1, i, none⟩ = false) ∧ b + 1 < wr.heap.size :=
  ⟨⟨h.flt.cell 0, h.flt.cell 1, h.flt.cell 2⟩, h.flt.free, h.flt.lt⟩
end
end Go.Proofs.Ytkfmcbhoendocaa
