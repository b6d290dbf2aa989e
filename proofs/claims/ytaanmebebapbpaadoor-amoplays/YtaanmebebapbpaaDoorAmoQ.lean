/-
  The document's own row of reservations (package suzerainref08): as plain lists, in memory, and contracts over the translation.
  Conditions: the arguments are numbers of their kinds; the row stands behind its pointer.
-/
import Derived.Test.YtaanmebebapbpaaDoorAmoP
namespace Go.Proofs.YtaanmebebapbpaaDoor
open Go Go.RowKit W M D A
set_option linter.unusedVariables false
set_option linter.unusedSimpArgs false

/-- Its cells: of each hart whether it has one, then of each its block. -/
def cq (r : St) : List Value := (r.map fun p => Value.bool p.2) ++ r.map fun p => Value.int .u64 p.1
/-- At block p stands such a row. -/
structure QAt (w : World) (p : Nat) (r : St) : Prop where
  row : Row w p 35 (cq r)
  len : r.length = 8
  bd : ∀ i, B64 (atS r i)
section
variable {w w' : World} {p : Nat} {r : St}
theorem cq_is (r : St) (h8 : r.length = 8) (i : Nat) (hi : i < 8) : (cq r)[i]? = some (.bool (isS r i)) := by
  have hl : i < r.length := by omega
  rw [cq, List.getElem?_append_left (by simpa using hl)]
  simp [isS, List.getD_eq_getElem?_getD, List.getElem?_eq_getElem hl]
theorem cq_at (r : St) (h8 : r.length = 8) (i : Nat) (hi : i < 8) : (cq r)[8 + i]? = some (.int .u64 (atS r i)) := by
  have hl : i < r.length := by omega
  rw [cq, List.getElem?_append_right (by simp; omega)]
  simp [atS, List.getD_eq_getElem?_getD, h8, List.getElem?_eq_getElem hl]
theorem cq_set (r : St) (h8 : r.length = 8) (i : Nat) (hi : i < 8) (b : Int) (t : Bool) : cq (r.set i (b, t)) = ((cq r).set i (.bool t)).set (8 + i) (.int .u64 b) := by
  rw [cq, cq, List.set_append_left _ _ (by simp; omega), List.set_append_right _ _ (by simp; omega)]
  simp [List.map_set, h8]
theorem cq_off (r : St) (h8 : r.length = 8) (i : Nat) (hi : i < 8) (t : Bool) : cq (r.set i (atS r i, t)) = (cq r).set i (.bool t) := by
  rw [cq_set r h8 i hi]
  have e : ((cq r).set i (.bool t))[8 + i]? = some (.int .u64 (atS r i)) := by
    rw [List.getElem?_set_ne (by omega), cq_at r h8 i hi]
  obtain ⟨hl, he⟩ := List.getElem?_eq_some_iff.1 e
  rw [← he, List.set_getElem_self]
theorem QAt.is (h : QAt w p r) {i : Nat} (hi : i < 8) : w.cell? ⟨p, i, none⟩ = some (.bool (isS r i)) := by rw [h.row.cell, cq_is r h.len i hi]
theorem QAt.at (h : QAt w p r) {i : Nat} (hi : i < 8) : w.cell? ⟨p, 8 + i, none⟩ = some (.int .u64 (atS r i)) := by rw [h.row.cell, cq_at r h.len i hi]
theorem QAt.grown {row : Option Nat} (h : QAt w p r) (hb : w.grownBy w' row) (hp : some p ≠ row) : QAt w' p r := ⟨h.row.grown hb hp, h.len, h.bd⟩
theorem QAt.kept (h : QAt w p r) (hb : w.grownBy w' none) : QAt w' p r := h.grown hb (by simp)
theorem QAt.both (h : QAt w p r) {i : Nat} (hi : i < 8) {b : Int} {t : Bool} (hb : B64 b) : QAt ((w.setCell ⟨p, i, none⟩ (.bool t)).setCell ⟨p, 8 + i, none⟩ (.int .u64 b)) p (r.set i (b, t)) := by
  refine ⟨?_, by simp [h.len], fun j => ?_⟩
  · rw [cq_set r h.len i hi]
    exact (h.row.put _ _).put _ _
  · rw [at_set r i b t j (by rw [h.len]; exact hi)]
    split
    · exact hb
    · exact h.bd j
theorem QAt.off (h : QAt w p r) {i : Nat} (hi : i < 8) (t : Bool) : QAt (w.setCell ⟨p, i, none⟩ (.bool t)) p (r.set i (atS r i, t)) := by
  refine ⟨?_, by simp [h.len], fun j => ?_⟩
  · rw [cq_off r h.len i hi]
    exact h.row.put _ _
  · rw [at_set r i _ t j (by rw [h.len]; exact hi)]
    split
    · exact h.bd i
    · exact h.bd j
end
theorem known_c (h : Int) (hh : I64 h) (w : World) : Calls Tryd.prog 35 #[.int .i64 h] w fun e w' => e = .returned (.bool (isH h)) ∧ w = w' := by
  by_cases h0 : 0 ≤ h
  · go_enter Tryd.func35, Tryd.ntmps35
    go_wp2_with fail
    go_ret
    exact ⟨ret_boo (by simp [isH, h0]), rfl⟩
  · have d0 : decide (h ≥ 0) = false := by simpa using h0
    go_enter Tryd.func35, Tryd.ntmps35
    go_wp2_with fail
    go_ret
    exact ⟨ret_boo (by simp [isH]; omega), rfl⟩
def rsetS (r : St) (h a : Int) : St := if isH h = true then r.set h.toNat (blk a, true) else r
def rtookS (r : St) (h : Int) : St := if isH h = true then r.set h.toNat (atS r h.toNat, false) else r
theorem rSet_c (p : Nat) (r : St) (h a : Int) (hh : I64 h) (ha : B64 a) (w : World) (hR : QAt w p r) :
    Calls Tryd.prog 18 #[.pointer (some ⟨p, 0, none⟩), .int .i64 h, .int .u64 a] w fun e w' => e = .returned (.tuple #[]) ∧ QAt w' p (rsetS r h a) ∧ w.grownBy w' (some p) := by
  have HH := Lib.hid (fun W => known_c h hh W)
  unfold rsetS
  by_cases e : isH h = true
  · have := (isH_iff h).1 e
    obtain ⟨i, rfl⟩ : ∃ i : Nat, h = i := ⟨h.toNat, by omega⟩
    have hi : i < 8 := by omega
    rw [e] at HH ⊢
    rw [if_pos rfl, Int.toNat_natCast]
    have hb : IntKind.u64.wrap (a - a % 8) = blk a := by unfold B64 at ha; rw [u64_eq, blk]; omega
    have HB := Lib.hid (blk_bd ha)
    have c0 := hR.is hi
    have c1 := hR.at hi
    have f0 := hR.row.free i
    have f1 := hR.row.free (8 + i)
    unfold B64 at ha
    go_enter Tryd.func18, Tryd.ntmps18
    go_wp2_with fail
    refine (HH.out _).mono ?_
    rintro e w' ⟨rfl, rfl⟩
    go_wp2_with fail
    go_end0
    exact ⟨rfl, hR.both hi HB.out, gr_set (gr_set (gr_refl _ _) _) _⟩
  · have e : isH h = false := by simpa using e
    rw [e] at HH ⊢
    rw [if_neg (by simp)]
    go_enter Tryd.func18, Tryd.ntmps18
    go_wp2_with fail
    refine (HH.out _).mono ?_
    rintro e w' ⟨rfl, rfl⟩
    go_wp2_with fail
    go_end0
    exact ⟨rfl, hR, gr_refl _ _⟩
theorem rTake_c (p : Nat) (r : St) (h a : Int) (hh : I64 h) (ha : B64 a) (w : World) (hR : QAt w p r) :
    Calls Tryd.prog 20 #[.pointer (some ⟨p, 0, none⟩), .int .i64 h, .int .u64 a] w fun e w' => e = .returned (.bool (takeS r h a)) ∧ QAt w' p (rtookS r h) ∧ w.grownBy w' (some p) := by
  have HH := Lib.hid (fun W => known_c h hh W)
  unfold takeS rtookS
  by_cases e : isH h = true
  · have := (isH_iff h).1 e
    obtain ⟨i, rfl⟩ : ∃ i : Nat, h = i := ⟨h.toNat, by omega⟩
    have hi : i < 8 := by omega
    rw [e] at HH ⊢
    rw [if_pos rfl, Int.toNat_natCast, Bool.true_and]
    have hb : IntKind.u64.wrap (a - a % 8) = blk a := by unfold B64 at ha; rw [u64_eq, blk]; omega
    have c0 := hR.is hi
    have c1 := hR.at hi
    have f0 := hR.row.free i
    unfold B64 at ha
    have HQ := Lib.hid (hR.off hi false)
    generalize isS r i = t at *
    cases t
    all_goals
      go_enter Tryd.func20, Tryd.ntmps20
      go_wp2_with fail
      refine (HH.out _).mono ?_
      rintro e w' ⟨rfl, rfl⟩
      go_wp2_with fail
      go_ret
      exact ⟨rfl, HQ.out, gr_set (gr_refl _ _) _⟩
  · have e : isH h = false := by simpa using e
    rw [e] at HH ⊢
    rw [if_neg (by simp), Bool.false_and]
    go_enter Tryd.func20, Tryd.ntmps20
    go_wp2_with fail
    refine (HH.out _).mono ?_
    rintro e w' ⟨rfl, rfl⟩
    go_wp2_with fail
    go_ret
    exact ⟨rfl, hR, gr_refl _ _⟩
end Go.Proofs.YtaanmebebapbpaaDoor
