/-
  Maps whose elements are structs of functions: what is looked up in them.
  Conditions: none beyond the translation.
-/
import Derived.Test.YtkfmcbhoendocaaDoorCsrF
import Derived.Maps.OwnOps
import Derived.Maps.OwnSet
import Derived.Maps.Views
namespace Go.Proofs.YtkfmcbhoendocaaDoor
open Go Go.RowKit Go.Maps W M D A C
set_option linter.unusedVariables false

theorem keyedI : Keyed Tryd.prog 3 := int_keyed Tryd.underlying3
def zR : Value := .agg #[.nilFunc, .nilFunc]
def zK : Value := .agg #[.nilFunc, .int .u64 0]
def zI : Value := .agg #[.nilFunc, .bool false, .bool false]
theorem zeroR (w : World) : (zeroValue 52).run Tryd.prog w = .ok zR w := by kernel_rfl
/-- An element reads as itself. -/
def anyElem (v : Value) : Option (DataW Value × List MemPlace) := some (.held v, [])
def datF : List (Int × Value) → DataW Value
  | [] => .map []
  | (k, v) :: L => (datF L).put (.int .i64 k) (.held v)
theorem datF_map : ∀ L, IsMap (datF L)
  | [] => ⟨[], rfl⟩
  | (k, v) :: L => (datF_map L).put _ _
theorem datF_at (x : Int) (z : Value) : ∀ L, (datF L).atKey (.int .i64 x) (.held z) = .held ((A.look L x).getD z)
  | [] => rfl
  | (k, v) :: L => by
    rw [datF, A.look]
    by_cases h : x = k
    · subst h
      rw [if_pos rfl, atKey_put_same (datF_map L) (by exact trivial)]; rfl
    · rw [if_neg h, atKey_put_other (by intro e; injection e with _ e; exact h e)]
      exact datF_at x z L
theorem datF_has (x : Int) : ∀ L, has (datF L) (.int .i64 x) = (A.look L x).isSome
  | [] => rfl
  | (k, v) :: L => by
    rw [datF, A.look]
    by_cases h : x = k
    · subst h
      rw [if_pos rfl, has_put_same (datF_map L) (by exact trivial)]; rfl
    · rw [if_neg h, has_put_other (by intro e; injection e with _ e; exact h e)]
      exact datF_has x L
/-- Row by row the same keys, and values that are what they should be. -/
def Fits {α : Type} (R : Value → α → Prop) : List (Int × Value) → List (Int × α) → Prop
  | [], [] => True
  | (k, v) :: L, (k', f) :: T => k = k' ∧ R v f ∧ Fits R L T
  | _, _ => False
theorem Fits.look {α : Type} {R : Value → α → Prop} (x : Int) : ∀ {L : List (Int × Value)} {T : List (Int × α)}, Fits R L T →
    (A.look L x = none ∧ A.look T x = none) ∨ ∃ v f, A.look L x = some v ∧ A.look T x = some f ∧ R v f
  | [], [], _ => Or.inl ⟨rfl, rfl⟩
  | (k, v) :: L, (k', f) :: T, h => by
    obtain ⟨rfl, hv, hr⟩ := h
    rw [A.look, A.look]
    by_cases e : x = k
    · rw [if_pos e, if_pos e]
      exact Or.inr ⟨v, f, rfl, rfl, hv⟩
    · rw [if_neg e, if_neg e]
      exact Fits.look x hr
  | [], _ :: _, h => h.elim
  | _ :: _, [], h => h.elim
/-- The value is a map of these rows. -/
def TabF {α : Type} (R : Value → α → Prop) (w : World) (m : Value) (T : List (Int × α)) : Prop :=
  ∃ b n L, m = .map (some b) ∧ w.ownsMap Tryd.prog 3 anyElem b n (datF L) ∧ Fits R L T
theorem wfI {k : Int} (h : -9223372036854775808 ≤ k ∧ k ≤ 9223372036854775807) : (Lit.int .i64 k).wf = true := WalkArith.wf_i64 h
theorem own_look {t : TypeId} {e : TypeId} {w : World} {b n : Nat} {L : List (Int × Value)} {z : Value} (ht : Tryd.prog.underlying t = some (.map 3 e)) (hz : (zeroValue e).run Tryd.prog w = .ok z w)
    (h : w.ownsMap Tryd.prog 3 anyElem b n (datF L)) (x : Int) (hx : -9223372036854775808 ≤ x ∧ x ≤ 9223372036854775807) :
    (Instr.lookup t (.map (some b)) (.int .i64 x) true).run Tryd.prog w = .ok (.tuple #[(A.look L x).getD z, .bool (A.look L x).isSome]) w := by
  obtain ⟨v, ps, hr, hv⟩ := h.look_ok keyedI ht hz (zd := .held z) (zp := []) rfl (keyOf_int_mk Tryd.underlying3 (wfI hx))
  rw [datF_at] at hv
  rw [datF_has] at hr
  have e : v = (A.look L x).getD z := by
    simp only [anyElem, Option.some.injEq, Prod.mk.injEq, DataW.held.injEq] at hv
    exact hv.1
  rw [hr, e]
theorem TabF.lookT {α : Type} {R : Value → α → Prop} {t e : TypeId} {w : World} {m z : Value} {T : List (Int × α)} (ht : Tryd.prog.underlying t = some (.map 3 e)) (hz : (zeroValue e).run Tryd.prog w = .ok z w)
    (h : TabF R w m T) (x : Int) (hx : -9223372036854775808 ≤ x ∧ x ≤ 9223372036854775807) :
    ((Instr.lookup t m (.int .i64 x) true).run Tryd.prog w = .ok (.tuple #[z, .bool false]) w ∧ A.look T x = none) ∨
    ∃ v f, (Instr.lookup t m (.int .i64 x) true).run Tryd.prog w = .ok (.tuple #[v, .bool true]) w ∧ A.look T x = some f ∧ R v f := by
  obtain ⟨b, n, L, rfl, ho, hf⟩ := h
  have hr := own_look ht hz ho x hx
  rcases hf.look x with ⟨e1, e2⟩ | ⟨v, f, e1, e2, hv⟩
  · rw [e1] at hr
    exact Or.inl ⟨hr, e2⟩
  · rw [e1] at hr
    exact Or.inr ⟨v, f, hr, e2, hv⟩
theorem updF {t e : TypeId} (ht : Tryd.prog.underlying t = some (.map 3 e)) {w : World} {b n : Nat} {D : DataW Value} (h : w.ownsMap Tryd.prog 3 anyElem b n D) (hn : n < maxLen) (k : Int) (hk : -9223372036854775808 ≤ k ∧ k ≤ 9223372036854775807) (v : Value) :
    ∃ w', (Instr.mapUpdate t (.map (some b)) (.int .i64 k) v).run Tryd.prog w = .ok () w' ∧ w'.ownsMap Tryd.prog 3 anyElem b (n + 1) (D.put (.int .i64 k) (.held v)) ∧ w.grownBy w' (some b) ∧ Cel w w' := by
  have hb := h
  obtain ⟨es, cl, hb, _⟩ := hb
  obtain ⟨w', h1, h2, h3⟩ := h.update keyedI ht hn (keyOf_int_mk Tryd.underlying3 (wfI hk)) (d := .held v) (ps := []) rfl
  refine ⟨w', h1, h2, h3, fun g t l r => r.grown h3 ?_⟩
  intro he
  injection he with he
  subst he
  rw [Row, hb] at r
  cases r
/-- A call that hands back a map of these rows. -/
def GivesM {α : Type} (R : World → Value → α → Prop) (w : World) (T : List (Int × α)) (e : Ending) (w' : World) : Prop := ∃ m, e = .returned m ∧ TabF (R w') w' m T ∧ w.grownBy w' none
def IsReg (w : World) (v : Value) (x : Nat × (Int → Int → Int)) : Prop := ∃ p h, v = .agg #[p, h] ∧ Places p x.1 ∧ Does w h x.2
def IsCnt (w : World) (v : Value) (x : (Cs → Int → Int) × Int) : Prop := ∃ p, v = .agg #[p, .int .u64 x.2] ∧ Tells p x.1
def IsIns (w : World) (v : Value) (x : (Int → Int → Int) × Bool × Bool) : Prop := ∃ p, v = .agg #[p, .bool x.2.1, .bool x.2.2] ∧ Does w p x.1
end Go.Proofs.YtkfmcbhoendocaaDoor
