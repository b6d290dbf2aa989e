/-
  Plain mathematics of layer 16 (mask): which harts a mask means from one on, which mask some harts are, and what the statements say of them.
  Conditions: the masks are numbers of 64 bits where that is said.
-/
import Derived.Test.YtgcjefgblodfmaaLayW
namespace Go.Proofs.Ytgcjefgblodfmaa.Mk
open Go Go.RowKit W
set_option linter.unusedVariables false

/-- How many harts there are. -/
def manyV (n : Int) : Nat := (min (max n 0) 8).toNat
theorem many_le (n : Int) : manyV n ≤ 8 := by unfold manyV; omega
theorem many_int (n : Int) : ((manyV n : Nat) : Int) = min (max n 0) 8 := by unfold manyV; omega
/-- The harts 0 to N less 1. -/
def firstsV (N : Nat) : List Int := (List.range N).map (fun i : Nat => (i : Int))
theorem firsts_length (N : Nat) : (firstsV N).length = N := by simp [firstsV]
theorem firsts_get {N i : Nat} (h : i < N) : (firstsV N)[i]? = some (i : Int) := by simp [firstsV, h]
theorem firsts_succ (N : Nat) : firstsV (N + 1) = firstsV N ++ [(N : Int)] := by simp [firstsV, List.range_succ]
/-- The harts of a mask's first k bits, from b on: none at all where one of them is not there. -/
def pickV (M : Nat) (b : Int) (N : Nat) : Nat → Option (List Int)
  | 0 => some []
  | k + 1 => match pickV M b N k with
    | none => none
    | some l => if M.testBit k = true then (if b + (k : Int) < (N : Int) then some (l ++ [b + (k : Int)]) else none) else some l
def ansV : Option (List Int) → List Int × Bool
  | some l => (l, true)
  | none => ([], false)
def hartsV (M : Nat) (b n : Int) : List Int × Bool :=
  if b = 18446744073709551615 then (firstsV (manyV n), true) else ansV (pickV M b (manyV n) 64)
def ofStep (x : Nat) (h : Int) : Nat := if 0 ≤ h ∧ h < 64 then x ||| 2 ^ h.toNat else x
def ofV (l : List Int) : Nat := l.foldl ofStep 0

section
variable {M N : Nat} {b : Int} {k : Nat} {l : List Int}
theorem pick_skip (h : pickV M b N k = some l) (hb : M.testBit k = false) : pickV M b N (k + 1) = some l := by unfold pickV; simp [h, hb]
theorem pick_take (h : pickV M b N k = some l) (hb : M.testBit k = true) (hn : b + (k : Int) < N) : pickV M b N (k + 1) = some (l ++ [b + (k : Int)]) := by unfold pickV; simp [h, hb, hn]
theorem pick_fail (h : pickV M b N k = some l) (hb : M.testBit k = true) (hn : ¬ b + (k : Int) < N) : pickV M b N (k + 1) = none := by unfold pickV; simp [h, hb, hn]
theorem pick_none (h : pickV M b N k = none) : ∀ j, pickV M b N (k + j) = none
  | 0 => h
  | j + 1 => by show pickV M b N (k + j + 1) = none; unfold pickV; simp [pick_none h j]
theorem pick_none' (h : pickV M b N k = none) {j : Nat} (hj : k ≤ j) : pickV M b N j = none := by
  have := pick_none h (j - k); rwa [show k + (j - k) = j by omega] at this
theorem pick_length : ∀ {k : Nat} {l : List Int}, pickV M b N k = some l → l.length ≤ k
  | 0, l, h => by unfold pickV at h; injection h with h; subst h; simp
  | k + 1, l, h => by
    unfold pickV at h
    split at h
    · cases h
    · rename_i l0 h0
      have := pick_length h0
      split at h
      · split at h
        · injection h with h; subst h; simp; omega
        · cases h
      · injection h with h; subst h; omega
/-- What is picked. -/
theorem pick_mem : ∀ {k : Nat} {l : List Int}, pickV M b N k = some l → (∀ x : Int, x ∈ l ↔ ∃ j : Nat, j < k ∧ M.testBit j = true ∧ x = b + (j : Int)) ∧ (∀ x ∈ l, x < (N : Int) ∧ b ≤ x ∧ x < b + (k : Int)) ∧ l.Pairwise (· < ·)
  | 0, l, h => by unfold pickV at h; injection h with h; subst h; simp
  | k + 1, l, h => by
    unfold pickV at h
    split at h
    · cases h
    · rename_i l0 h0
      obtain ⟨h1, h2, h3⟩ := pick_mem h0
      split at h
      · rename_i hb
        split at h
        · rename_i hn
          injection h with h; subst h
          refine ⟨fun x => ?_, fun x hx => ?_, ?_⟩
          · rw [List.mem_append, h1]
            constructor
            · rintro (⟨j, a1, a2, a3⟩ | hx)
              · exact ⟨j, by omega, a2, a3⟩
              · exact ⟨k, by omega, hb, by simpa using hx⟩
            · rintro ⟨j, a1, a2, a3⟩
              by_cases hj : j = k
              · subst hj; right; simpa using a3
              · left; exact ⟨j, by omega, a2, a3⟩
          · rcases List.mem_append.1 hx with hx | hx
            · have := h2 x hx; omega
            · have : x = b + (k : Int) := by simpa using hx
              omega
          · rw [List.pairwise_append]
            refine ⟨h3, by simp, fun x hx y hy => ?_⟩
            have := h2 x hx
            have : y = b + (k : Int) := by simpa using hy
            omega
        · cases h
      · rename_i hb
        injection h with h; subst h
        refine ⟨fun x => ?_, fun x hx => by have := h2 x hx; omega, h3⟩
        rw [h1]
        constructor
        · rintro ⟨j, a1, a2, a3⟩; exact ⟨j, by omega, a2, a3⟩
        · rintro ⟨j, a1, a2, a3⟩
          refine ⟨j, ?_, a2, a3⟩
          rcases Nat.lt_or_eq_of_le (Nat.le_of_lt_succ a1) with hj | hj
          · exact hj
          · subst hj; exact absurd a2 hb
/-- Whether all are there. -/
theorem pick_there : ∀ {k : Nat}, (pickV M b N k).isSome = true ↔ ∀ j : Nat, j < k → M.testBit j = true → b + (j : Int) < (N : Int)
  | 0 => by simp [pickV]
  | k + 1 => by
    have ih := @pick_there k
    constructor
    · intro h j hj hb
      have h' : (pickV M b N (k + 1)).isSome = true := h
      unfold pickV at h'
      split at h'
      · cases h'
      · rename_i l0 h0
        by_cases hk : j = k
        · subst hk
          rw [if_pos hb] at h'
          split at h'
          · assumption
          · cases h'
        · exact ih.1 (by rw [h0]; rfl) j (by omega) hb
    · intro h
      have h0 := ih.2 (fun j hj hb => h j (by omega) hb)
      obtain ⟨l0, h0⟩ := Option.isSome_iff_exists.1 h0
      unfold pickV
      rw [h0]
      simp only
      split
      · rename_i hb
        rw [if_pos (h k (by omega) hb)]; rfl
      · rfl
end
theorem pick_zero (b : Int) (N : Nat) : ∀ k, pickV 0 b N k = some []
  | 0 => rfl
  | k + 1 => pick_skip (pick_zero b N k) (Nat.zero_testBit k)

/-! ### Masks -/
theorem ofStep_lt {x : Nat} (hx : x < 2 ^ 64) (h : Int) : ofStep x h < 2 ^ 64 := by
  unfold ofStep; split
  · rename_i hh
    exact Nat.or_lt_two_pow hx (Nat.pow_lt_pow_right (by omega) (by omega))
  · exact hx
theorem foldl_lt (l : List Int) : ∀ x, x < 2 ^ 64 → l.foldl ofStep x < 2 ^ 64 := by
  induction l with
  | nil => intro x hx; exact hx
  | cons h l ih => intro x hx; exact ih _ (ofStep_lt hx h)
theorem of_lt (l : List Int) : ofV l < 18446744073709551616 := by
  have := foldl_lt l 0 (by decide); unfold ofV; omega
theorem of_snoc (l : List Int) (h : Int) : ofV (l ++ [h]) = ofStep (ofV l) h := by simp [ofV]
theorem of_take {l : List Int} {i : Nat} (hi : i < l.length) : ofV (l.take (i + 1)) = ofStep (ofV (l.take i)) (l.getD i 0) := by
  rw [← of_snoc, List.take_add_one, List.getElem?_eq_getElem hi]
  simp [List.getD, List.getElem?_eq_getElem hi]
theorem step_bit (x : Nat) (h : Int) (j : Nat) (hj : j < 64) : (ofStep x h).testBit j = (x.testBit j || decide (h = (j : Int))) := by
  unfold ofStep; split
  · rename_i hh
    rw [Nat.testBit_or, Nat.testBit_two_pow]
    congr 1
    apply decide_eq_decide.2
    omega
  · rename_i hh
    have : decide (h = (j : Int)) = false := by apply decide_eq_false; omega
    rw [this, Bool.or_false]
theorem of_bit (l : List Int) (j : Nat) (hj : j < 64) : ∀ x, (l.foldl ofStep x).testBit j = (x.testBit j || decide ((j : Int) ∈ l)) := by
  induction l with
  | nil => intro x; simp
  | cons h l ih =>
    intro x
    rw [List.foldl_cons, ih, step_bit x h j hj, Bool.or_assoc]
    congr 1
    rw [← Bool.decide_or]
    apply decide_eq_decide.2
    rw [List.mem_cons]
    constructor
    · rintro (h1 | h1)
      · exact .inl h1.symm
      · exact .inr h1
    · rintro (h1 | h1)
      · exact .inl h1.symm
      · exact .inr h1
/-- The harts of a mask, as a mask again. -/
theorem of_pick {M N : Nat} {l : List Int} (hM : M < 18446744073709551616) (h : pickV M 0 N 64 = some l) : ofV l = M := by
  obtain ⟨h1, -, -⟩ := pick_mem h
  apply Nat.eq_of_testBit_eq
  intro j
  by_cases hj : j < 64
  · unfold ofV
    rw [of_bit l j hj 0, Nat.zero_testBit, Bool.false_or]
    cases hb : M.testBit j
    · apply decide_eq_false
      rw [h1]
      rintro ⟨i, -, a2, a3⟩
      have : i = j := by omega
      subst this
      rw [hb] at a2; cases a2
    · apply decide_eq_true
      rw [h1]
      exact ⟨j, hj, hb, by omega⟩
  · have h64 : (18446744073709551616 : Nat) = 2 ^ 64 := by decide
    rw [Nat.testBit_lt_two_pow (Nat.lt_of_lt_of_le (h64 ▸ of_lt l) (Nat.pow_le_pow_right (by omega) (by omega))),
      Nat.testBit_lt_two_pow (Nat.lt_of_lt_of_le (h64 ▸ hM) (Nat.pow_le_pow_right (by omega) (by omega)))]
theorem bit_lt {M N j : Nat} (h : M < 2 ^ N) (hb : M.testBit j = true) : j < N := by
  rcases Nat.lt_or_ge j N with h1 | h1
  · exact h1
  · rw [Nat.testBit_lt_two_pow (Nat.lt_of_lt_of_le h (Nat.pow_le_pow_right (by omega) h1))] at hb; cases hb
theorem lt_of_bits {M N : Nat} (h : ∀ j, M.testBit j = true → j < N) : M < 2 ^ N := by
  apply Nat.lt_pow_two_of_testBit
  intro j hj
  cases hb : M.testBit j
  · rfl
  · have := h j hb; omega
/-- All harts of a mask are there just if nothing of it stands above. -/
theorem there_iff {M N : Nat} (hM : M < 18446744073709551616) (hN : N ≤ 64) : (pickV M 0 N 64).isSome = decide ((M : Int) / ((2 ^ N : Nat) : Int) = 0) := by
  have e : ((M : Int) / ((2 ^ N : Nat) : Int) = 0) ↔ M < 2 ^ N := by
    rw [← Int.natCast_ediv]
    constructor
    · intro h
      have h0 : M / 2 ^ N = 0 := by omega
      exact (Nat.div_eq_zero_iff_lt (Nat.pow_pos (by omega))).1 h0
    · intro h
      have := Nat.div_eq_of_lt h
      omega
  rw [Bool.eq_iff_iff, pick_there, decide_eq_true_iff, e]
  constructor
  · intro h
    apply lt_of_bits
    intro j hb
    have h64 : M < 2 ^ 64 := by have : (18446744073709551616 : Nat) = 2 ^ 64 := by decide
                                omega
    have := h j (bit_lt h64 hb) hb
    omega
  · intro h j hj hb
    have := bit_lt h hb
    omega
/-- A mask from one on is the mask shifted so far. -/
theorem pick_shift (M b N : Nat) : ∀ k, pickV (M * 2 ^ b) 0 N (b + k) = pickV M (b : Int) N k
  | 0 => by
    have : ∀ j, j ≤ b → pickV (M * 2 ^ b) 0 N j = some [] := by
      intro j
      induction j with
      | zero => intro _; rfl
      | succ j ih =>
        intro hj
        refine pick_skip (ih (by omega)) ?_
        rw [Nat.mul_comm, Nat.testBit_two_pow_mul]
        simp; omega
    rw [Nat.add_zero, this b (Nat.le_refl _)]; rfl
  | k + 1 => by
    have ih := pick_shift M b N k
    show pickV (M * 2 ^ b) 0 N (b + k + 1) = pickV M (b : Int) N (k + 1)
    unfold pickV
    rw [ih, Nat.mul_comm M, Nat.testBit_two_pow_mul]
    have e1 : (0 : Int) + ((b + k : Nat) : Int) = (b : Int) + (k : Int) := by omega
    have e2 : (decide (b + k ≥ b) && M.testBit (b + k - b)) = M.testBit k := by simp
    rw [e1, e2]
theorem pick_high {M : Nat} {b : Int} {N k : Nat} (hM : M < 2 ^ k) : ∀ j, pickV M b N (k + j) = pickV M b N k
  | 0 => rfl
  | j + 1 => by
    have ih := pick_high (b := b) (N := N) hM j
    show pickV M b N (k + j + 1) = _
    cases hp : pickV M b N k with
    | none => exact pick_none hp (j + 1)
    | some l =>
      rw [hp] at ih
      refine pick_skip ih ?_
      cases hb : M.testBit (k + j)
      · rfl
      · have := bit_lt hM hb; omega
theorem shift_same {M b N : Nat} (hM : M < 256) (hb : b ≤ 56) : pickV (M * 2 ^ b) 0 N 64 = pickV M (b : Int) N 64 := by
  have h1 := pick_shift M b N (64 - b)
  rw [show b + (64 - b) = 64 by omega] at h1
  have h2 := pick_high (M := M) (b := (b : Int)) (N := N) (k := 64 - b) (Nat.lt_of_lt_of_le hM (Nat.pow_le_pow_right (n := 2) (i := 8) (by omega) (by omega))) b
  rw [show 64 - b + b = 64 by omega] at h2
  rw [h1, h2]
theorem far_none {M b N : Nat} (hM : M < 256) (hN : N ≤ 8) (hb : 56 < b) : (pickV M (b : Int) N 64).isSome = decide (M = 0) := by
  rw [Bool.eq_iff_iff, pick_there, decide_eq_true_iff]
  constructor
  · intro h
    apply Nat.eq_of_testBit_eq
    intro j
    rw [Nat.zero_testBit]
    cases hj : M.testBit j
    · rfl
    · have := bit_lt (N := 8) hM hj
      have := h j (by omega) hj
      omega
  · rintro rfl j _ h
    rw [Nat.zero_testBit] at h; cases h
theorem firsts_is (n : Int) : (firstsV (manyV n)).length = manyV n := firsts_length _
theorem pick_sorted {M N : Nat} {l : List Int} (h : pickV M 0 N 64 = some l) {i : Nat} (hi : i < l.length) : 0 ≤ l.getD i 0 ∧ l.getD i 0 < (N : Int) ∧ (0 < i → l.getD (i - 1) 0 < l.getD i 0) := by
  obtain ⟨-, h2, h3⟩ := pick_mem h
  have e : ∀ j (hj : j < l.length), l.getD j 0 = l[j] := fun j hj => by simp [List.getD, List.getElem?_eq_getElem hj]
  have := h2 _ (List.getElem_mem hi)
  refine ⟨by rw [e i hi]; omega, by rw [e i hi]; omega, fun h0 => ?_⟩
  rw [e i hi, e (i - 1) (by omega)]
  exact List.pairwise_iff_getElem.1 h3 (i - 1) i (by omega) hi (by omega)
theorem or_there {L k N : Nat} (hL : L < 2 ^ N) (hN : N ≤ 8) (hk : k < 64) : (pickV (L ||| 2 ^ k) 0 N 64).isSome = decide (k < N) := by
  rw [Bool.eq_iff_iff, pick_there, decide_eq_true_iff]
  constructor
  · intro h
    have := h k hk (by rw [Nat.testBit_or, Nat.testBit_two_pow]; simp)
    omega
  · intro h j hj hb
    rw [Nat.testBit_or, Nat.testBit_two_pow, Bool.or_eq_true, decide_eq_true_iff] at hb
    rcases hb with hb | hb
    · have := bit_lt hL hb; omega
    · omega
theorem low_there {L N : Nat} (hL : L < 2 ^ N) : (pickV L 0 N 64).isSome = true := by
  rw [pick_there]
  intro j _ hb
  have := bit_lt hL hb
  omega
theorem harts_zero (M : Nat) (n : Int) : hartsV M 0 n = ansV (pickV M 0 (manyV n) 64) := rfl
theorem harts_other (M : Nat) {b : Int} (n : Int) (h : b ≤ 18446744073709551614) : hartsV M b n = ansV (pickV M b (manyV n) 64) := if_neg (by omega)
theorem ans_snd (o : Option (List Int)) : (ansV o).2 = o.isSome := by cases o <;> rfl
theorem ans_none {o : Option (List Int)} (h : o.isSome = false) : ansV o = ([], false) := by cases o with
  | none => rfl
  | some l => cases h
theorem ans_length (M : Nat) (b n : Int) : (hartsV M b n).1.length ≤ 64 := by
  have := many_le n
  unfold hartsV
  split
  · rw [firsts_length]; omega
  · cases h : pickV M b (manyV n) 64 with
    | none => exact Nat.zero_le _
    | some l => exact pick_length h
theorem many_nat {N : Nat} (h : N ≤ 8) : manyV (N : Int) = N := by unfold manyV; omega
theorem wrap_pow {k : Nat} (h : k < 64) : IntKind.u64.wrap ((2 : Int) ^ k) = ((2 ^ k : Nat) : Int) := by
  have hp : 2 ^ k < 18446744073709551616 := Nat.lt_of_lt_of_eq (Nat.pow_lt_pow_right (m := k) (n := 64) (by omega) (by omega)) (by decide)
  rw [u64_eq, show ((2 : Int) ^ k) = ((2 ^ k : Nat) : Int) by simp]
  generalize 2 ^ k = q at *
  omega
theorem or_pow {L k : Nat} (hL : L < 18446744073709551616) (h : k < 64) : bits .or .u64 (L : Int) ((2 ^ k : Nat) : Int) = ((L ||| 2 ^ k : Nat) : Int) ∧ L ||| 2 ^ k < 18446744073709551616 := by
  have hp : 2 ^ k < 18446744073709551616 := Nat.lt_of_lt_of_eq (Nat.pow_lt_pow_right (m := k) (n := 64) (by omega) (by omega)) (by decide)
  generalize 2 ^ k = q at *
  refine ⟨?_, ?_⟩
  · rw [u64_or _ _ (by omega) (by omega) (by omega) (by omega)]; rfl
  · have := Nat.or_lt_two_pow (n := 64) (x := L) (y := q) (by omega) (by omega)
    omega
end Go.Proofs.Ytgcjefgblodfmaa.Mk
