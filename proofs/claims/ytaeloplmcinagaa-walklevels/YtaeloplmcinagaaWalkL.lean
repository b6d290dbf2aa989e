/-
  What stands while a statement of layer 11 goes on: the access, two memories; contracts carried over worlds.
  Conditions: the arguments are numbers of their kinds.
-/
import Derived.Test.YtaeloplmcinagaaWalkB
import Derived.Test.YtaeloplmcinagaaWalkLw
import Derived.Test.YtaeloplmcinagaaWalkM
import Derived.OpenShut
namespace Go.Proofs.Ytaeloplmcinagaa
open Go Go.RowKit W M D A C P K
set_option linter.unusedVariables false

structure Lw (w : World) (t p g p' g' : Nat) (bs : List Int) (L : List Value) (wr : World) : Prop where
  tr : Row wr t 29 L
  one : RAt wr p g bs
  two : QAt wr p' g' bs
  gr : w.grownBy wr none
theorem Lw.keep {w wr ws : World} {t p g p' g' : Nat} {bs : List Int} {L : List Value} (h : Lw w t p g p' g' bs L wr) (hg : wr.grownBy ws none) : Lw w t p g p' g' bs L ws :=
  ⟨h.tr.grown hg (by simp), h.one.kept hg, h.two.kept hg, gr_trans h.gr hg⟩
theorem cells15 {w : World} {g : Nat} {t : TypeId} {b0 b1 b2 b3 b4 b5 b6 b7 b8 b9 b10 b11 b14 : Int} {b12 b13 : Int} (h : Row w g t [.int .u64 b0, .int .u64 b1, .int .u64 b2, .int .u64 b3, .int .u64 b4, .int .u64 b5, .int .u64 b6, .int .u64 b7, .int .u64 b8, .int .u64 b9, .int .u64 b10, .int .u64 b11, .int .i64 b12, .int .i64 b13, .int .u64 b14]) :
    w.cell? ⟨g, 0, none⟩ = some (.int .u64 b0) ∧ w.cell? ⟨g, 1, none⟩ = some (.int .u64 b1) ∧ w.cell? ⟨g, 2, none⟩ = some (.int .u64 b2) ∧ w.cell? ⟨g, 3, none⟩ = some (.int .u64 b3) ∧ w.cell? ⟨g, 4, none⟩ = some (.int .u64 b4) ∧ w.cell? ⟨g, 5, none⟩ = some (.int .u64 b5) ∧ w.cell? ⟨g, 6, none⟩ = some (.int .u64 b6) ∧ w.cell? ⟨g, 7, none⟩ = some (.int .u64 b7) ∧ w.cell? ⟨g, 8, none⟩ = some (.int .u64 b8) ∧ w.cell? ⟨g, 9, none⟩ = some (.int .u64 b9) ∧ w.cell? ⟨g, 10, none⟩ = some (.int .u64 b10) ∧ w.cell? ⟨g, 11, none⟩ = some (.int .u64 b11) ∧ w.cell? ⟨g, 12, none⟩ = some (.int .i64 b12) ∧ w.cell? ⟨g, 13, none⟩ = some (.int .i64 b13) ∧ w.cell? ⟨g, 14, none⟩ = some (.int .u64 b14) := ⟨h.cell 0, h.cell 1, h.cell 2, h.cell 3, h.cell 4, h.cell 5, h.cell 6, h.cell 7, h.cell 8, h.cell 9, h.cell 10, h.cell 11, h.cell 12, h.cell 13, h.cell 14⟩
theorem cells3 {w : World} {g : Nat} {t : TypeId} {x y z : Value} (h : Row w g t [x, y, z]) : w.cell? ⟨g, 0, none⟩ = some x ∧ w.cell? ⟨g, 1, none⟩ = some y ∧ w.cell? ⟨g, 2, none⟩ = some z := ⟨h.cell 0, h.cell 1, h.cell 2⟩
theorem Elems.more {w : World} {B B' : Nat} {A : Option Addr} {n : Nat} {f g : Nat → Int} (h : Elems w B A n f g) (hB : B ≤ B') : Elems w B' A n f g := fun i hi => by
  obtain ⟨ad, e, hb, r⟩ := h i hi
  exact ⟨ad, e, by omega, r⟩
/-- The elements of a slice that came in. -/
theorem elems_of {w : World} {A : Option Addr} {n : Nat} (el : ∀ i, i < n → ∃ ad, A = some ad ∧ ad.block < w.heap.size ∧ ∃ (x0 : Int) (x1 : Int), (w.cell? (ad.add (i * 2 + 0)) = some (.int .u32 x0) ∧ (Lit.int .u32 x0).wf = true) ∧ (w.cell? (ad.add (i * 2 + 1)) = some (.int .u64 x1) ∧ (Lit.int .u64 x1).wf = true)) :
    ∃ f g : Nat → Int, Elems w w.heap.size A n f g := by
  obtain ⟨f, g, hh⟩ := pick (n := n) (Q := fun i x y => ∃ ad, A = some ad ∧ ad.block < w.heap.size ∧ w.cell? (ad.add (i * 2 + 0)) = some (.int .u32 x) ∧ (0 ≤ x ∧ x ≤ 4294967295) ∧ w.cell? (ad.add (i * 2 + 1)) = some (.int .u64 y) ∧ B64 y) (fun i hi => by
    obtain ⟨ad, e, hb, x, y, ⟨c0, b0⟩, ⟨c1, b1⟩⟩ := el i hi
    exact ⟨x, y, ad, e, hb, c0, bounds_u32 b0, c1, bounds_u64 b1⟩)
  exact ⟨f, g, hh⟩
theorem good12 {b0 b1 b2 b3 b4 b5 b6 b7 b8 b9 b10 b11 : Int} (h0 : B64 b0) (h1 : B64 b1) (h2 : B64 b2) (h3 : B64 b3) (h4 : B64 b4) (h5 : B64 b5) (h6 : B64 b6) (h7 : B64 b7) (h8 : B64 b8) (h9 : B64 b9) (h10 : B64 b10) (h11 : B64 b11) : C.Good [b0, b1, b2, b3, b4, b5, b6, b7, b8, b9, b10, b11] := by
  refine ⟨rfl, fun x hx => ?_⟩
  simp only [List.mem_cons, List.mem_nil_iff, or_false] at hx
  rcases hx with rfl | rfl | rfl | rfl | rfl | rfl | rfl | rfl | rfl | rfl | rfl | rfl
  all_goals assumption
/-- What a call of To tells, with the fault laid open. -/
theorem to_at {p g : Nat} {bs : List Int} {c : Cs} {priv kind va : Int} (hc : C.Good c) (hp : I64 priv) (hk : I64 kind) (hv : B64 va) {R : Wr} (hR : R = walkV bs (gC c 9) (gC c 0) priv kind va) {x : Int} (hx : x = toV bs (gC c 9) (gC c 0) priv kind va) (w : World) (hm : RAt w p g bs) :
    Calls Try.prog 12 #[.pointer (some ⟨p, 0, none⟩), vC c, .int .i64 priv, .int .i64 kind, .int .u64 va] w fun e w' => e = .returned (.tuple #[.int .u64 x, .agg #[.bool R.isf, .int .i64 R.cause, .int .u64 R.val]]) ∧ w.grownBy w' none := by
  subst hR hx
  exact To_c p g bs c hc priv kind va hp hk hv w hm
/-- A mark on a world that is new but for one block more. -/
theorem new3 (w : World) (t : TypeId) (x y z : Value) : Row (w.alloc (.cells #[x, y, z] t)) w.heap.size t [x, y, z] := Row.fresh w t [x, y, z]
end Go.Proofs.Ytaeloplmcinagaa
