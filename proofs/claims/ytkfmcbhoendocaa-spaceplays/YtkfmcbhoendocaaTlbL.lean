/-
  What stands while a statement of layer 12 goes on: what is done, memory, the row of leaves; contracts carried over worlds.
  Conditions: the arguments are numbers of their kinds.
-/
import Derived.Test.YtkfmcbhoendocaaWalkB
import Derived.Test.YtkfmcbhoendocaaTlbSh
import Derived.Test.YtkfmcbhoendocaaLayK
import Derived.OpenShut
namespace Go.Proofs.Ytkfmcbhoendocaa
open Go Go.RowKit W M D A C P K
set_option linter.unusedVariables false

theorem cells3 {w : World} {g : Nat} {t : TypeId} {x y z : Value} (h : Row w g t [x, y, z]) : w.cell? ⟨g, 0, none⟩ = some x ∧ w.cell? ⟨g, 1, none⟩ = some y ∧ w.cell? ⟨g, 2, none⟩ = some z := ⟨h.cell 0, h.cell 1, h.cell 2⟩
theorem Elems.more {w : World} {B B' : Nat} {A : Option Addr} {n : Nat} {f g : Nat → Int} (h : Elems w B A n f g) (hB : B ≤ B') : Elems w B' A n f g := fun i hi => by
  obtain ⟨ad, e, hb, r⟩ := h i hi
  exact ⟨ad, e, by omega, r⟩
/-- The elements of a slice that came in. -/
theorem elems_of {w : World} {A : Option Addr} {n : Nat} (el : ∀ i, i < n → ∃ ad, A = some ad ∧ ad.block < w.heap.size ∧ ∃ (x0 : Int) (x1 : Int), (w.cell? (ad.add (i * 2 + 0)) = some (.int .u32 x0) ∧ (Lit.int .u32 x0).wf = true) ∧ (w.cell? (ad.add (i * 2 + 1)) = some (.int .u64 x1) ∧ (Lit.int .u64 x1).wf = true)) :
    ∃ f g : Nat → Int, Elems w w.heap.size A n f g := by
  obtain ⟨f, g, hh⟩ := pick (n := n) (Q := fun i x y => ∃ ad, A = some ad ∧ ad.block < w.heap.size ∧ w.cell? (ad.add (i * 2 + 0)) = some (.int .u32 x) ∧ (0 ≤ x ∧ x ≤ 4294967295) ∧ w.cell? (ad.add (i * 2 + 1)) = some (.int .u64 y) ∧ B64 y) (fun i hi => by
    obtain ⟨ad, e, hb, x, y, ⟨c0, b0⟩, ⟨c1, b1⟩⟩ := el i hi
    exact ⟨x, y, ad, e, hb, c0, bounds_u32 b0, c1, bounds_u64 b1⟩)
  exact ⟨f, g, hh⟩
theorem good12 {b0 b1 b2 b3 b4 b5 b6 b7 b8 b9 b10 b11 : Int} (h0 : B64 b0) (h1 : B64 b1) (h2 : B64 b2) (h3 : B64 b3) (h4 : B64 b4) (h5 : B64 b5) (h6 : B64 b6) (h7 : B64 b7) (h8 : B64 b8) (h9 : B64 b9) (h10 : B64 b10) (h11 : B64 b11) : C.Good [b0, b1, b2, b3, b4, b5, b6, b7, b8, b9, b10, b11] := by
  refine ⟨rfl, fun x hx => ?_⟩
  simp only [List.mem_cons, List.mem_nil_iff, or_false] at hx
  rcases hx with rfl | rfl | rfl | rfl | rfl | rfl | rfl | rfl | rfl | rfl | rfl | rfl
  all_goals assumption
/-- What a call of To tells, with the fault laid open. -/
theorem to_at {p g : Nat} {bs : List Int} {c : Cs} {priv kind va : Int} (hc : C.Good c) (hp : I64 priv) (hk : I64 kind) (hv : B64 va) {R : Wr} (hR : R = walkV bs (gC c 9) (gC c 0) priv kind va) {x : Int} (hx : x = toV bs (gC c 9) (gC c 0) priv kind va) (w : World) (hm : RAt w p g bs) :
    Calls Try.prog 21 #[.pointer (some ⟨p, 0, none⟩), vC c, .int .i64 priv, .int .i64 kind, .int .u64 va] w fun e w' => e = .returned (.tuple #[.int .u64 x, .agg #[.bool R.isf, .int .i64 R.cause, .int .u64 R.val]]) ∧ w.grownBy w' none := by
  subst hR hx
  exact To_c p g bs c hc priv kind va hp hk hv w hm
/-- What a call of the row's To tells, with the fault laid open. -/
theorem to12 {c : Cs} {priv kind va : Int} (hc : C.Good c) (hp : I64 priv) (hk : I64 kind) (hv : B64 va) {bs : List Int} {most : Nat} {L : List T.Lf} {n x n' : Int} {R : Wr} {L' : List T.Lf}
    (hx : T.toRV bs L (gC c 9) (gC c 0) priv kind va = x) (hR : T.toFV bs L (gC c 9) (gC c 0) priv kind va = R) (hL : T.toLV bs most L (gC c 9) (gC c 0) priv kind va = L') (hn : T.toNV L n (gC c 9) (gC c 0) priv kind va = n')
    (pm gm B p : Nat) (v : Value) (w : World) (hB : B ≤ w.heap.size) (hm : RAt w pm gm bs) (h : HAt w B p most v n L) :
    Calls Try.prog 15 #[.pointer (some ⟨p, 0, none⟩), .pointer (some ⟨pm, 0, none⟩), vC c, .int .i64 priv, .int .i64 kind, .int .u64 va] w fun e w' => e = .returned (.tuple #[.int .u64 x, .agg #[.bool R.isf, .int .i64 R.cause, .int .u64 R.val]]) ∧ Turned w B p most v n' L' w' := by
  subst hx hR hL hn
  exact TTo_c pm gm bs c hc priv kind va hp hk hv B p most v n L w hB hm h
theorem held_less {w : World} {B B' p most : Nat} {v : Value} {n : Int} {L : List T.Lf} (h : HAt w B p most v n L) (hB : B' ≤ B) : HAt w B' p most v n L :=
  ⟨h.ptr, h.arr.less hB, h.fine, h.le, h.most, by have := h.own; omega, h.num⟩
/-- What stands: a block of what is done, memory, the row. -/
structure Lt (w : World) (T0 : TypeId) (t : Nat) (l : List Value) (pm gm : Nat) (bs : List Int) (p most : Nat) (v : Value) (n : Int) (L : List T.Lf) (wr : World) : Prop where
  opr : Row wr t T0 l
  mem : RAt wr pm gm bs
  row : HAt wr w.heap.size p most v n L
  gr : w.grownBy wr none
section
variable {w wr ws : World} {T0 : TypeId} {t pm gm p most : Nat} {l : List Value} {bs : List Int} {v : Value} {n n' : Int} {L L' : List T.Lf}
theorem Lt.keep (h : Lt w T0 t l pm gm bs p most v n L wr) (hg : wr.grownBy ws none) : Lt w T0 t l pm gm bs p most v n L ws :=
  ⟨h.opr.grown hg (by simp), h.mem.kept hg, h.row.kept hg, gr_trans h.gr hg⟩
theorem Lt.set1 (h : Lt w T0 t l pm gm bs p most v n L wr) {g : Nat} {t' : TypeId} {l' : List Value} (hr : Row wr g t' l') (h1 : 122 ≠ t') (h2 : t' ≠ 135) (h3 : 161 ≠ t') (h4 : 5 ≠ t') (h5 : T0 ≠ t') (hg : w.heap.size ≤ g) (i : Nat) (u : Value) :
    Lt w T0 t l pm gm bs p most v n L (wr.setCell ⟨g, i, none⟩ u) := by
  have hv := h.row.arr.ne hr h2
  refine ⟨h.opr.other (h.opr.apart hr h5) _, ⟨h.mem.ptr.other (h.mem.ptr.apart hr h3) _, h.mem.row.other (h.mem.row.apart hr h4) _, h.mem.byt, h.mem.len⟩,
    ⟨h.row.ptr.other (h.row.ptr.apart hr h1) _, h.row.arr.keep (gr_set (gr_refl wr (some g)) _) ?_, h.row.fine, h.row.le, h.row.most, h.row.own, h.row.num⟩, gr_row (gr_set (gr_none h.gr _) _) hg⟩
  rcases hq : v.ownBlock with _ | g'
  · exact .inl rfl
  · right
    rw [hq] at hv
    exact fun e => hv e.symm
theorem Lt.turn (h : Lt w T0 t l pm gm bs p most v n L wr) (h1 : T0 ≠ 122) (h2 : T0 ≠ 135) (ht : Turned wr w.heap.size p most v n' L' ws) :
    ∃ v', Lt w T0 t l pm gm bs p most v' n' L' ws ∧ T.But p v wr ws := by
  obtain ⟨v', hh, -, hb⟩ := ht
  exact ⟨v', ⟨held_row h.row hb h.opr h1 h2, held_ram h.row hb h.mem, hh, but_grown h.gr h.row (Nat.le_refl _) hb⟩, hb⟩
end
/-- A fault of the call's own stays. -/
theorem own_row {w wr ws : World} {T0 : TypeId} {t pm gm p most : Nat} {l : List Value} {bs : List Int} {v : Value} {n : Int} {L : List T.Lf} (h : Lt w T0 t l pm gm bs p most v n L wr) (hb : T.But p v wr ws) {g : Nat} {t' : TypeId} {l' : List Value} (hr : Row wr g t' l') (h1 : t' ≠ 122) (h2 : t' ≠ 135) : Row ws g t' l' :=
  held_row h.row hb hr h1 h2
end Go.Proofs.Ytkfmcbhoendocaa
