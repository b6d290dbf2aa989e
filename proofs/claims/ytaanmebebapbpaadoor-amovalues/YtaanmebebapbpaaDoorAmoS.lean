/-
  A row of reservations: as plain lists, and how it stands in the model's memory.
  Conditions: none.
-/
import Derived.Test.YtaanmebebapbpaaDoorAmoV
import Derived.Test.YtaanmebebapbpaaDoorRamM
namespace Go.Proofs.YtaanmebebapbpaaDoor.A
open Go Go.RowKit W D M
set_option linter.unusedVariables false

/-- Of each hart its block, and whether it has one. -/
abbrev St := List (Int × Bool)
/-- The cells of such a row. -/
def cel : St → List Value
  | [] => []
  | (b, t) :: L => .int .u64 b :: .bool t :: cel L
theorem cel_length : ∀ s : St, (cel s).length = 2 * s.length
  | [] => rfl
  | (b, t) :: L => by simp [cel, cel_length L]; omega
theorem cel_at : ∀ (s : St) (h : Nat), (cel s)[h * 2]? = (s[h]?).map fun p => Value.int .u64 p.1
  | [], h => by simp [cel]
  | (b, t) :: L, 0 => by simp [cel]
  | (b, t) :: L, h + 1 => by
    have := cel_at L h
    rw [show (h + 1) * 2 = h * 2 + 1 + 1 from by omega]
    simpa [cel] using this
theorem cel_is : ∀ (s : St) (h : Nat), (cel s)[h * 2 + 1]? = (s[h]?).map fun p => Value.bool p.2
  | [], h => by simp [cel]
  | (b, t) :: L, 0 => by simp [cel]
  | (b, t) :: L, h + 1 => by
    have := cel_is L h
    rw [show (h + 1) * 2 + 1 = h * 2 + 1 + 1 + 1 from by omega]
    simpa [cel] using this
theorem cel_set : ∀ (s : St) (h : Nat) (b : Int) (t : Bool), cel (s.set h (b, t)) = ((cel s).set (h * 2) (.int .u64 b)).set (h * 2 + 1) (.bool t)
  | [], h, b, t => by simp [cel]
  | (x, y) :: L, 0, b, t => by simp [cel]
  | (x, y) :: L, h + 1, b, t => by
    have := cel_set L h b t
    rw [show (h + 1) * 2 = h * 2 + 1 + 1 from by omega]
    simp [cel, this]
/-- What a hart has: its block, and whether it has one. -/
def atS (s : St) (h : Nat) : Int := (s.getD h (0, false)).1
def isS (s : St) (h : Nat) : Bool := (s.getD h (0, false)).2
/-- Eight harts; where there is none, all is 0. -/
structure Good (s : St) : Prop where
  len : s.length = 8
  bd : ∀ h, B64 (atS s h)
  no : ∀ h, isS s h = false → atS s h = 0
  by8 : ∀ h, atS s h % 8 = 0
/-- The block of an address. -/
def blk (a : Int) : Int := a - a % 8
def st0 : St := List.replicate 8 (0, false)
def isH (h : Int) : Bool := decide (0 ≤ h) && decide (h < 8)
def setS (s : St) (h a : Int) : St := if isH h = true then s.set h.toNat (blk a, true) else s
def takeS (s : St) (h a : Int) : Bool := isH h && (isS s h.toNat && decide (atS s h.toNat = blk a))
def tookS (s : St) (h : Int) : St := if isH h = true then s.set h.toNat (0, false) else s
def meetV (b a n : Int) : Bool := decide ((a - b) % 18446744073709551616 < 8) || decide ((b - a) % 18446744073709551616 < n)
/-- Whether a hart's reservation is ended by the first k steps. -/
def endS (s : St) (h a n : Int) (i : Nat) : Bool := (decide ((i : Int) ≠ h) && isS s i) && meetV (atS s i) a n
def storS : Nat → St → Int → Int → Int → St
  | 0, s, _, _, _ => s
  | k + 1, s, h, a, n => if endS s h a n k = true then (storS k s h a n).set k (0, false) else storS k s h a n
def storedS (s : St) (h a n : Int) : St := if isH h = true ∧ 1 ≤ n then storS 8 s h a n else s

theorem getD_set (s : St) (h : Nat) (x : Int × Bool) (i : Nat) (hl : h < s.length) : (s.set h x).getD i (0, false) = if i = h then x else s.getD i (0, false) := by
  simp only [List.getD_eq_getElem?_getD, List.getElem?_set]
  by_cases e : h = i
  · subst e; simp [hl]
  · simp [e, Ne.symm e]
theorem at_set (s : St) (h : Nat) (b : Int) (t : Bool) (i : Nat) (hl : h < s.length) : atS (s.set h (b, t)) i = if i = h then b else atS s i := by
  unfold atS; rw [getD_set s h _ i hl]; split <;> rfl
theorem is_set (s : St) (h : Nat) (b : Int) (t : Bool) (i : Nat) (hl : h < s.length) : isS (s.set h (b, t)) i = if i = h then t else isS s i := by
  unfold isS; rw [getD_set s h _ i hl]; split <;> rfl
theorem blk_bd {a : Int} (ha : B64 a) : B64 (blk a) := by unfold blk B64 at *; omega
theorem blk_by8 (a : Int) : blk a % 8 = 0 := by unfold blk; omega
theorem Good.set {s : St} (g : Good s) {h : Nat} (hh : h < 8) {b : Int} {t : Bool} (hb : B64 b) (h8 : b % 8 = 0) (hn : t = false → b = 0) : Good (s.set h (b, t)) := by
  have hl : h < s.length := by rw [g.len]; exact hh
  refine ⟨by simp [g.len], fun i => ?_, fun i hi => ?_, fun i => ?_⟩
  · rw [at_set s h b t i hl]; split; exact hb; exact g.bd i
  · rw [at_set s h b t i hl]; rw [is_set s h b t i hl] at hi
    by_cases e : i = h
    · rw [if_pos e] at hi ⊢; exact hn hi
    · rw [if_neg e] at hi ⊢; exact g.no i hi
  · rw [at_set s h b t i hl]; split; exact h8; exact g.by8 i
theorem isH_iff (h : Int) : isH h = true ↔ 0 ≤ h ∧ h < 8 := by simp [isH]
theorem Good.setS {s : St} (g : Good s) (h a : Int) (ha : B64 a) : Good (setS s h a) := by
  unfold A.setS
  split
  · rename_i e
    have := (isH_iff h).1 e
    exact g.set (by omega) (blk_bd ha) (blk_by8 a) (fun e => by cases e)
  · exact g
theorem zero_bd : B64 0 := by unfold B64; omega
theorem Good.tookS {s : St} (g : Good s) (h : Int) : Good (tookS s h) := by
  unfold A.tookS
  split
  · rename_i e
    have := (isH_iff h).1 e
    exact g.set (by omega) zero_bd rfl (fun _ => rfl)
  · exact g
theorem Good.storS {s : St} (g : Good s) (h a n : Int) : ∀ k, k ≤ 8 → Good (storS k s h a n)
  | 0, _ => g
  | k + 1, hk => by
    rw [A.storS]
    split
    · exact (g.storS h a n k (by omega)).set (by omega) zero_bd rfl (fun _ => rfl)
    · exact g.storS h a n k (by omega)
theorem Good.storedS {s : St} (g : Good s) (h a n : Int) : Good (storedS s h a n) := by
  unfold A.storedS
  split
  · exact g.storS h a n 8 (by omega)
  · exact g
theorem good0 : Good st0 := by
  have : ∀ h, st0.getD h (0, false) = (0, false) := by
    intro h
    simp only [st0, List.getD_eq_getElem?_getD, List.getElem?_replicate]
    split <;> rfl
  refine ⟨rfl, fun h => ?_, fun h _ => ?_, fun h => ?_⟩
  · unfold atS; rw [this]; exact zero_bd
  · unfold atS; rw [this]
  · unfold atS; rw [this]; rfl

theorem cel8 {s : St} (h : s.length = 8) : cel s = [.int .u64 (atS s 0), .bool (isS s 0), .int .u64 (atS s 1), .bool (isS s 1), .int .u64 (atS s 2), .bool (isS s 2), .int .u64 (atS s 3), .bool (isS s 3),
    .int .u64 (atS s 4), .bool (isS s 4), .int .u64 (atS s 5), .bool (isS s 5), .int .u64 (atS s 6), .bool (isS s 6), .int .u64 (atS s 7), .bool (isS s 7)] := by
  match s, h with
  | [a, b, c, d, e, f, g, k], _ => rfl
/-- At block p stands such a row. -/
structure Res (T : TypeId) (w : World) (p : Nat) (s : St) : Prop where
  row : Row w p T (cel s)
  good : Good s
section
variable {T : TypeId} {w w' : World} {p : Nat} {s : St}
theorem Res.at (h : Res T w p s) {i : Nat} (hi : i < 8) : w.cell? ⟨p, i * 2, none⟩ = some (.int .u64 (atS s i)) := by
  have hl : i < s.length := by rw [h.good.len]; exact hi
  rw [h.row.cell, cel_at, atS, List.getD_eq_getElem?_getD, List.getElem?_eq_getElem hl]; rfl
theorem Res.is (h : Res T w p s) {i : Nat} (hi : i < 8) : w.cell? ⟨p, i * 2 + 1, none⟩ = some (.bool (isS s i)) := by
  have hl : i < s.length := by rw [h.good.len]; exact hi
  rw [h.row.cell, cel_is, isS, List.getD_eq_getElem?_getD, List.getElem?_eq_getElem hl]; rfl
theorem Res.grown {row : Option Nat} (h : Res T w p s) (hb : w.grownBy w' row) (hp : some p ≠ row) : Res T w' p s := ⟨h.row.grown hb hp, h.good⟩
theorem Res.kept (h : Res T w p s) (hb : w.grownBy w' none) : Res T w' p s := h.grown hb (by simp)
theorem Res.drewN (h : Res T w p s) (n : Nat) : Res T (w.drewN n) p s := ⟨h.row, h.good⟩
theorem Res.put (h : Res T w p s) {i : Nat} (hi : i < 8) {b : Int} {t : Bool} (hb : B64 b) (h8 : b % 8 = 0) (hn : t = false → b = 0) :
    Res T ((w.setCell ⟨p, i * 2, none⟩ (.int .u64 b)).setCell ⟨p, i * 2 + 1, none⟩ (.bool t)) p (s.set i (b, t)) := by
  refine ⟨?_, h.good.set hi hb h8 hn⟩
  rw [cel_set]
  exact (h.row.put _ _).put _ _
end
end Go.Proofs.YtaanmebebapbpaaDoor.A
