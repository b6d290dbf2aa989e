/-
  Plain mathematics of reservations: a store byte by byte, and by its ends; how the rows go together.
  Conditions: none; nothing here speaks of the program.
-/
import Derived.Test.YtaanmebebapbpaaDoorAmoQ2
import Derived.Test.YtaanmebebapbpaaDoorAmoQ3
namespace Go.Proofs.YtaanmebebapbpaaDoor
open Go Go.RowKit W M D A
set_option linter.unusedVariables false

theorem hit_iff (b a : Int) : ∀ j, hitN b a j = true ↔ ∃ q : Nat, q < j ∧ b = blk (IntKind.u64.wrap (a + q))
  | 0 => by simp [hitN]
  | j + 1 => by
    rw [hitN, Bool.or_eq_true, hit_iff b a j, decide_eq_true_eq]
    constructor
    · rintro (⟨q, h1, h2⟩ | h)
      · exact ⟨q, by omega, h2⟩
      · exact ⟨j, by omega, h⟩
    · rintro ⟨q, h1, h2⟩
      by_cases e : q = j
      · subst e; exact Or.inr h2
      · exact Or.inl ⟨q, by omega, h2⟩
/-- A byte's block, by how far it is behind the block's first. -/
theorem in_blk (b x : Int) (hb : B64 b) (h8 : b % 8 = 0) (hx : B64 x) : b = blk x ↔ (b ≤ x ∧ x < b + 8) := by
  unfold B64 blk at *
  omega
theorem hit_meet (b a n : Int) (hb : B64 b) (h8 : b % 8 = 0) (ha : B64 a) (h1 : 1 ≤ n) (h64 : n ≤ 64) : hitN b a n.toNat = meetV b a n := by
  rw [Bool.eq_iff_iff, hit_iff]
  unfold meetV
  rw [Bool.or_eq_true, decide_eq_true_eq, decide_eq_true_eq]
  constructor
  · rintro ⟨q, hq, e⟩
    rw [in_blk b _ hb h8 (u64_bd _), u64_eq] at e
    unfold B64 at *
    omega
  · intro h
    rcases h with h | h
    · refine ⟨0, by omega, ?_⟩
      rw [in_blk b _ hb h8 (u64_bd _), u64_eq]
      unfold B64 at *
      omega
    · refine ⟨((b - a) % 18446744073709551616).toNat, by omega, ?_⟩
      rw [in_blk b _ hb h8 (u64_bd _), u64_eq]
      unfold B64 at *
      omega
/-- What stands behind k steps of a store. -/
theorem stor_at {s : St} (g : A.Good s) (h a n : Int) (i : Nat) : ∀ k, k ≤ 8 → atS (storS k s h a n) i = (if i < k ∧ endS s h a n i = true then 0 else atS s i) ∧ isS (storS k s h a n) i = (if i < k ∧ endS s h a n i = true then false else isS s i)
  | 0, _ => by simp [storS]
  | k + 1, hk => by
    obtain ⟨e1, e2⟩ := stor_at g h a n i k (by omega)
    have hl := (g.storS h a n k (by omega)).len
    rw [storS]
    by_cases hE : endS s h a n k = true
    · rw [if_pos hE, at_set _ _ _ _ _ (by omega), is_set _ _ _ _ _ (by omega), e1, e2]
      by_cases e : i = k
      · subst e
        simp [hE]
      · rw [if_neg e, if_neg e]
        have : (i < k + 1 ∧ endS s h a n i = true) ↔ (i < k ∧ endS s h a n i = true) := by constructor <;> (rintro ⟨x, y⟩; exact ⟨by omega, y⟩)
        simp only [this]
        exact ⟨trivial, trivial⟩
    · rw [if_neg hE, e1, e2]
      by_cases e : i = k
      · subst e
        simp [hE]
      · have : (i < k + 1 ∧ endS s h a n i = true) ↔ (i < k ∧ endS s h a n i = true) := by constructor <;> (rintro ⟨x, y⟩; exact ⟨by omega, y⟩)
        simp only [this]
        exact ⟨trivial, trivial⟩
theorem stored_is {s : St} (g : A.Good s) (h a n : Int) (hh : isH h = true) (hn : 1 ≤ n) (i : Nat) (hi : i < 8) : isS (storedS s h a n) i = (isS s i && !(decide ((i : Int) ≠ h) && meetV (atS s i) a n)) := by
  rw [storedS, if_pos ⟨hh, hn⟩, (stor_at g h a n i 8 (by omega)).2, endS]
  generalize isS s i = t
  generalize meetV (atS s i) a n = m
  generalize decide ((i : Int) ≠ h) = d
  cases t <;> cases m <;> cases d <;> simp [hi]
theorem stored_at {s : St} (g : A.Good s) (h a n : Int) (i : Nat) (hi : i < 8) (hs : isS (storedS s h a n) i = true) : atS (storedS s h a n) i = atS s i := by
  unfold storedS at *
  split at hs
  · rename_i hc
    rw [if_pos hc] at *
    rw [(stor_at g h a n i 8 (by omega)).2] at hs
    rw [(stor_at g h a n i 8 (by omega)).1]
    split at hs
    · cases hs
    · rename_i hx
      rw [if_neg hx]
  · rename_i hc
    rw [if_neg hc]

/-! ### Both rows, step by step -/
theorem agree0 : Agree st0 st0 := fun i hi => ⟨rfl, fun _ => rfl⟩
theorem Agree.set {s r : St} (H : Agree s r) (hs : s.length = 8) (hr : r.length = 8) (h a : Int) : Agree (setS s h a) (rsetS r h a) := by
  unfold setS rsetS
  by_cases e : isH h = true
  · rw [if_pos e, if_pos e]
    have := (isH_iff h).1 e
    intro i hi
    rw [is_set _ _ _ _ _ (by omega), is_set _ _ _ _ _ (by omega), at_set _ _ _ _ _ (by omega), at_set _ _ _ _ _ (by omega)]
    split
    · exact ⟨rfl, fun _ => rfl⟩
    · exact H i hi
  · rw [if_neg e, if_neg e]; exact H
theorem Agree.took {s r : St} (H : Agree s r) (hs : s.length = 8) (hr : r.length = 8) (h : Int) : Agree (tookS s h) (rtookS r h) := by
  unfold tookS rtookS
  by_cases e : isH h = true
  · rw [if_pos e, if_pos e]
    have := (isH_iff h).1 e
    intro i hi
    rw [is_set _ _ _ _ _ (by omega), is_set _ _ _ _ _ (by omega), at_set _ _ _ _ _ (by omega), at_set _ _ _ _ _ (by omega)]
    split
    · exact ⟨rfl, fun x => by cases x⟩
    · exact H i hi
  · rw [if_neg e, if_neg e]; exact H
theorem Agree.take {s r : St} (H : Agree s r) (h a : Int) : takeS r h a = takeS s h a := by
  unfold takeS
  by_cases e : isH h = true
  · have := (isH_iff h).1 e
    obtain ⟨e1, e2⟩ := H h.toNat (by omega)
    rw [e1]
    cases hz : isS s h.toNat
    · rfl
    · rw [e2 hz]
  · have e : isH h = false := by simpa using e
    rw [e]; rfl
theorem Agree.stored {s r r' : St} (H : Agree s r) (g : A.Good s) (h a n : Int) (hh : isH h = true) (ha : B64 a) (h64 : n ≤ 64) (hA : After r h a n.toNat 0 r') : Agree (storedS s h a n) r' := by
  by_cases hn : 1 ≤ n
  · intro i hi
    obtain ⟨e1, e2⟩ := H i hi
    obtain ⟨k1, k2⟩ := hA i hi
    rw [if_neg (by omega)] at k2
    have hst := stored_is g h a n hh hn i hi
    have key : isS r' i = isS (storedS s h a n) i := by
      rw [k2, hst, e1]
      cases hz : isS s i
      · rfl
      · rw [e2 hz, hit_meet (atS s i) a n (g.bd i) (g.by8 i) ha hn h64]
    refine ⟨key, fun hs => ?_⟩
    rw [stored_at g h a n i hi hs, k1]
    apply e2
    rw [hst] at hs
    cases hz : isS s i
    · rw [hz] at hs; cases hs
    · rfl
  · have e : storedS s h a n = s := by rw [storedS, if_neg (fun x => hn x.2)]
    rw [e]
    intro i hi
    obtain ⟨e1, e2⟩ := H i hi
    obtain ⟨k1, k2⟩ := hA i hi
    rw [if_neg (by omega), show n.toNat = 0 from by omega, hitN, Bool.and_false] at k2
    rw [k1, k2]
    exact ⟨by rw [e1]; simp, e2⟩
end Go.Proofs.YtaanmebebapbpaaDoor
