/-
  Plain mathematics of layer 6 (enc): names and texts tell instructions apart.
  Conditions: none; nothing here speaks of the program.
-/
import Derived.Test.YtpbeamnogfjagaaGreatDoorEncM3
namespace Go.Proofs.YtpbeamnogfjagaaGreatDoor.E
open Go Go.RowKit F D
set_option linter.unusedVariables false

/-- A word of a text: no blank in it. -/
def Dense (s : Bytes) : Prop := ∀ c ∈ s, c ≠ 32
theorem dense_dg : ∀ u : Nat, Dense (Lib.decDigits u) := by
  intro u c hc
  rw [Lib.decDigits_eq] at hc
  simp only [List.mem_map] at hc
  obtain ⟨t, _, rfl⟩ := hc
  unfold Lib.dg
  intro h
  have h2 := congrArg UInt8.toNat h
  rw [UInt8.toNat_ofNat'] at h2
  have h3 : (32 : UInt8).toNat = 32 := rfl
  rw [h3] at h2
  have : u / 10 ^ (Lib.nDigits u - 1 - t) % 10 < 10 := Nat.mod_lt _ (by omega)
  omega
theorem dense_itoa (n : Int) : Dense (Lib.itoa n) := by
  unfold Lib.itoa
  split
  · intro c hc
    rcases List.mem_cons.1 hc with rfl | hc
    · decide
    · exact dense_dg _ c hc
  · exact dense_dg _
theorem dense_reg (r : Int) : Dense (regT r) := by
  intro c hc
  rcases List.mem_cons.1 hc with rfl | hc
  · decide
  · exact dense_itoa r c hc
/-- What a numeral says. -/
def valD (l : Bytes) : Nat := l.foldl (fun n c => n * 10 + (c.toNat - 48)) 0
theorem val_app (l : Bytes) (c : UInt8) : valD (l ++ [c]) = valD l * 10 + (c.toNat - 48) := by simp [valD]
theorem dig_toNat (k : Nat) (h : k < 10) : (UInt8.ofNat (48 + k)).toNat = 48 + k := by rw [UInt8.toNat_ofNat']; omega
theorem val_dg (u : Nat) : valD (Lib.decDigits u) = u := by
  induction u using Nat.strongRecOn with
  | ind u ih =>
    rw [Lib.decDigits]
    split
    · next h => simp [valD]; omega
    · next h => rw [val_app, ih (u / 10) (by omega), dig_toNat (u % 10) (by omega)]; omega
theorem dg_inj (a b : Nat) (h : Lib.decDigits a = Lib.decDigits b) : a = b := by
  rw [← val_dg a, h, val_dg]
theorem dg_no45 (u : Nat) : ∀ c ∈ Lib.decDigits u, c ≠ 45 := by
  intro c hc
  rw [Lib.decDigits_eq] at hc
  simp only [List.mem_map] at hc
  obtain ⟨t, _, rfl⟩ := hc
  unfold Lib.dg
  intro h
  have h2 := congrArg UInt8.toNat h
  rw [UInt8.toNat_ofNat'] at h2
  have h3 : (45 : UInt8).toNat = 45 := rfl
  rw [h3] at h2
  have : u / 10 ^ (Lib.nDigits u - 1 - t) % 10 < 10 := Nat.mod_lt _ (by omega)
  omega
theorem itoa_inj {a b : Int} (h : Lib.itoa a = Lib.itoa b) : a = b := by
  unfold Lib.itoa at h
  split at h
  · split at h
    · have := dg_inj _ _ (by injection h)
      omega
    · exact absurd rfl (dg_no45 _ 45 (by rw [← h]; simp))
  · split at h
    · exact absurd rfl (dg_no45 _ 45 (by rw [h]; simp))
    · have := dg_inj _ _ h
      omega
theorem reg_inj {a b : Int} (h : regT a = regT b) : a = b := itoa_inj (by unfold regT at h; injection h)
theorem names_ok : ((List.range 98).all fun i => (fullL.getD i []).all fun c => (decide (97 ≤ c) && decide (c ≤ 122)) || c == 46) = true := by decide +kernel
theorem names_full : ((List.range 98).all fun i => !(fullL.getD i []).isEmpty) = true := by decide +kernel
theorem names_apart : ((List.range 98).all fun i => (List.range 98).all fun j => i == j || !((fullL.getD i []) == (fullL.getD j []))) = true := by decide +kernel
/-- What follows a word: nothing, or a blank. -/
def Stop (x : Bytes) : Prop := x = [] ∨ ∃ y, x = 32 :: y
theorem word_inj : ∀ (a b x y : Bytes), Dense a → Dense b → Stop x → Stop y → a ++ x = b ++ y → a = b ∧ x = y
  | [], [], x, y, _, _, _, _, h => ⟨rfl, h⟩
  | [], c :: b, x, y, _, hb, hx, _, h => by
    rcases hx with rfl | ⟨z, rfl⟩
    · simp at h
    · simp at h; exact absurd h.1.symm (hb c (by simp))
  | c :: a, [], x, y, ha, _, _, hy, h => by
    rcases hy with rfl | ⟨z, rfl⟩
    · simp at h
    · simp at h; exact absurd h.1 (ha c (by simp))
  | c :: a, d :: b, x, y, ha, hb, hx, hy, h => by
    simp only [List.cons_append, List.cons.injEq] at h
    obtain ⟨h1, h2⟩ := word_inj a b x y (fun e he => ha e (by simp [he])) (fun e he => hb e (by simp [he])) hx hy h.2
    exact ⟨by rw [h.1, h1], h2⟩
theorem stop_tail (l : List Bytes) : Stop (Lib.joinTail [32] l) := by
  cases l with
  | nil => exact Or.inl rfl
  | cons a l => exact Or.inr ⟨a ++ Lib.joinTail [32] l, by simp [Lib.joinTail]⟩
/-- Words with a blank between are these words. -/
theorem tail_inj : ∀ (l m : List Bytes), (∀ s ∈ l, Dense s) → (∀ s ∈ m, Dense s) → Lib.joinTail [32] l = Lib.joinTail [32] m → l = m
  | [], [], _, _, _ => rfl
  | [], b :: m, _, _, h => by simp [Lib.joinTail] at h
  | a :: l, [], _, _, h => by simp [Lib.joinTail] at h
  | a :: l, b :: m, hl, hm, h => by
    have e : ∀ (a : Bytes) (l : List Bytes), Lib.joinTail [32] (a :: l) = 32 :: (a ++ Lib.joinTail [32] l) := fun a l => by simp [Lib.joinTail]
    rw [e, e] at h
    injection h with _ h
    obtain ⟨h1, h2⟩ := word_inj a b _ _ (hl a (by simp)) (hm b (by simp)) (stop_tail l) (stop_tail m) h
    rw [h1, tail_inj l m (fun s hs => hl s (by simp [hs])) (fun s hs => hm s (by simp [hs])) h2]
theorem join_inj {a b : Bytes} {l m : List Bytes} (ha : Dense a) (hb : Dense b) (hl : ∀ s ∈ l, Dense s) (hm : ∀ s ∈ m, Dense s) (h : Lib.join (a :: l) [32] = Lib.join (b :: m) [32]) : a = b ∧ l = m := by
  rw [Lib.join_cons, Lib.join_cons] at h
  obtain ⟨h1, h2⟩ := word_inj a b _ _ ha hb (stop_tail l) (stop_tail m) h
  exact ⟨h1, tail_inj l m hl hm h2⟩
/-! ### Names -/
theorem name_at (n : Nat) (hn : n < 98) : nameV n = fullL.getD n [] := by
  rw [name_full, if_neg (by omega), Int.toNat_natCast]
theorem name_byte (o : Int) : ∀ c ∈ nameV o, (97 ≤ c ∧ c ≤ 122) ∨ c = 46 := by
  intro c hc
  by_cases h : 0 ≤ o ∧ o ≤ 97
  · obtain ⟨n, rfl⟩ : ∃ n : Nat, o = n := ⟨o.toNat, by omega⟩
    rw [name_at n (by omega)] at hc
    have := List.all_eq_true.1 (List.all_eq_true.1 names_ok n (by simp; omega)) c hc
    simpa using this
  · rw [nameV, if_pos (by omega)] at hc; simp at hc
theorem dense_name (o : Int) : Dense (nameV o) := by
  intro c hc h
  subst h
  rcases name_byte o 32 hc with h | h
  · exact absurd h.1 (by decide)
  · exact absurd h (by decide)
theorem name_some (o : Int) : nameV o ≠ [] ↔ 0 ≤ o ∧ o ≤ 97 := by
  constructor
  · intro h
    apply Classical.byContradiction
    intro hc
    exact h (by rw [nameV, if_pos (by omega)])
  · intro h
    obtain ⟨n, rfl⟩ : ∃ n : Nat, o = n := ⟨o.toNat, by omega⟩
    rw [name_at n (by omega)]
    have := List.all_eq_true.1 names_full n (by simp; omega)
    simpa using this
theorem name_inj {a b : Int} (ha : 0 ≤ a ∧ a ≤ 97) (hb : 0 ≤ b ∧ b ≤ 97) (h : nameV a = nameV b) : a = b := by
  obtain ⟨n, rfl⟩ : ∃ n : Nat, a = n := ⟨a.toNat, by omega⟩
  obtain ⟨m, rfl⟩ : ∃ n : Nat, b = n := ⟨b.toNat, by omega⟩
  rw [name_at n (by omega), name_at m (by omega)] at h
  have := List.all_eq_true.1 (List.all_eq_true.1 names_apart n (by simp; omega)) m (by simp; omega)
  rw [h] at this
  simp at this
  omega
theorem dense_ops (o rd rs1 rs2 im : Int) : ∀ s ∈ opsV o rd rs1 rs2 im, Dense s := by
  rcases (show (o ≤ 0) ∨ (o = 1) ∨ (o = 2) ∨ (o = 3) ∨ (4 ≤ o ∧ o ≤ 4) ∨ (5 ≤ o ∧ o ≤ 10) ∨ (11 ≤ o ∧ o ≤ 17) ∨ (18 ≤ o ∧ o ≤ 21) ∨ (22 ≤ o ∧ o ≤ 30) ∨ (31 ≤ o ∧ o ≤ 40) ∨ (41 ≤ o ∧ o ≤ 44) ∨ (45 ≤ o ∧ o ≤ 49) ∨ (50 ≤ o ∧ o ≤ 57) ∨ (58 ≤ o ∧ o ≤ 62) ∨ (63 ≤ o ∧ o ≤ 69) ∨ (70 ≤ o ∧ o ≤ 75) ∨ (76 ≤ o ∧ o ≤ 86) ∨ (87 ≤ o ∧ o ≤ 97) ∨ (97 < o) by omega) with k | k | k | k | k | k | k | k | k | k | k | k | k | k | k | k | k | k | k
  · rw [ops0 k]; intro s hs; simp at hs
  · rw [ops1 k]; intro s hs; simp at hs
    rcases hs with rfl | rfl
    · exact dense_reg _
    · exact dense_itoa _
  · rw [ops2 k]; intro s hs; simp at hs
    rcases hs with rfl | rfl
    · exact dense_reg _
    · exact dense_itoa _
  · rw [ops3 k]; intro s hs; simp at hs
    rcases hs with rfl | rfl
    · exact dense_reg _
    · exact dense_itoa _
  · rw [ops4 k]; intro s hs; simp at hs
    rcases hs with rfl | rfl | rfl
    · exact dense_reg _
    · exact dense_reg _
    · exact dense_itoa _
  · rw [ops5 k]; intro s hs; simp at hs
    rcases hs with rfl | rfl | rfl
    · exact dense_reg _
    · exact dense_reg _
    · exact dense_itoa _
  · rw [ops6 k]; intro s hs; simp at hs
    rcases hs with rfl | rfl | rfl
    · exact dense_reg _
    · exact dense_reg _
    · exact dense_itoa _
  · rw [ops7 k]; intro s hs; simp at hs
    rcases hs with rfl | rfl | rfl
    · exact dense_reg _
    · exact dense_reg _
    · exact dense_itoa _
  · rw [ops8 k]; intro s hs; simp at hs
    rcases hs with rfl | rfl | rfl
    · exact dense_reg _
    · exact dense_reg _
    · exact dense_itoa _
  · rw [ops9 k]; intro s hs; simp at hs
    rcases hs with rfl | rfl | rfl
    · exact dense_reg _
    · exact dense_reg _
    · exact dense_reg _
  · rw [ops10 k]; intro s hs; simp at hs
    rcases hs with rfl | rfl | rfl
    · exact dense_reg _
    · exact dense_reg _
    · exact dense_itoa _
  · rw [ops11 k]; intro s hs; simp at hs
    rcases hs with rfl | rfl | rfl
    · exact dense_reg _
    · exact dense_reg _
    · exact dense_reg _
  · rw [ops12 k]; intro s hs; simp at hs
    rcases hs with rfl | rfl | rfl
    · exact dense_reg _
    · exact dense_reg _
    · exact dense_reg _
  · rw [ops13 k]; intro s hs; simp at hs
    rcases hs with rfl | rfl | rfl
    · exact dense_reg _
    · exact dense_reg _
    · exact dense_reg _
  · rw [ops14 k]; intro s hs; simp at hs
  · rw [ops15 k]; intro s hs; simp at hs
    rcases hs with rfl | rfl | rfl
    · exact dense_reg _
    · exact dense_reg _
    · exact dense_itoa _
  · rw [ops16 k]; intro s hs; simp at hs
    rcases hs with rfl | rfl | rfl
    · exact dense_reg _
    · exact dense_reg _
    · exact dense_reg _
  · rw [ops17 k]; intro s hs; simp at hs
    rcases hs with rfl | rfl | rfl
    · exact dense_reg _
    · exact dense_reg _
    · exact dense_reg _
  · rw [ops18 k]; intro s hs; simp at hs
/-- A text tells instructions that words can say apart, but for one op. -/
theorem text_inj {o rd rs1 rs2 im p sd ss1 ss2 jm : Int} (h : D.Can o (rd, rs1, rs2, im)) (k : D.Can p (sd, ss1, ss2, jm)) (ho : o ≠ 69) (e : textV o rd rs1 rs2 im = textV p sd ss1 ss2 jm) :
    o = p ∧ rd = sd ∧ rs1 = ss1 ∧ rs2 = ss2 ∧ im = jm := by
  obtain ⟨e1, e2⟩ := join_inj (dense_name o) (dense_name p) (dense_ops _ _ _ _ _) (dense_ops _ _ _ _ _) e
  have ep := name_inj h.1 k.1 e1
  subst ep
  obtain ⟨h0, _, _, _, hl⟩ := h
  obtain ⟨_, _, _, _, kl⟩ := k
  simp only at hl kl
  rcases (show (o ≤ 0) ∨ (1 ≤ o ∧ o ≤ 2) ∨ (3 ≤ o ∧ o ≤ 3) ∨ (4 ≤ o ∧ o ≤ 4) ∨ (5 ≤ o ∧ o ≤ 10) ∨ (11 ≤ o ∧ o ≤ 17) ∨ (18 ≤ o ∧ o ≤ 21) ∨ (22 ≤ o ∧ o ≤ 27) ∨ (28 ≤ o ∧ o ≤ 30) ∨ (31 ≤ o ∧ o ≤ 40) ∨ (41 ≤ o ∧ o ≤ 41) ∨ (42 ≤ o ∧ o ≤ 44) ∨ (45 ≤ o ∧ o ≤ 62) ∨ (63 ≤ o ∧ o ≤ 68) ∨ (70 ≤ o ∧ o ≤ 75) ∨ (76 ≤ o ∧ o ≤ 76) ∨ (77 ≤ o ∧ o ≤ 86) ∨ (87 ≤ o ∧ o ≤ 87) ∨ (88 ≤ o ∧ o ≤ 97) by omega) with q | q | q | q | q | q | q | q | q | q | q | q | q | q | q | q | q | q | q
  · rw [lim0 _ _ _ _ _ (by omega)] at hl kl
    exact ⟨rfl, by omega, by omega, by omega, by omega⟩
  · rw [lim1 _ _ _ _ _ (by omega)] at hl kl
    rcases (show o = 1 ∨ o = 2 by omega) with z | z
    · rw [ops1 z, ops1 z] at e2
      simp only [List.cons.injEq, and_true] at e2
      have r1 := reg_inj e2.1
      have r4 := itoa_inj e2.2
      exact ⟨rfl, by omega, by omega, by omega, by omega⟩
    · rw [ops2 z, ops2 z] at e2
      simp only [List.cons.injEq, and_true] at e2
      have r1 := reg_inj e2.1
      have r4 := itoa_inj e2.2
      exact ⟨rfl, by omega, by omega, by omega, by omega⟩
  · rw [lim2 _ _ _ _ _ (by omega)] at hl kl
    rw [ops3 (by omega), ops3 (by omega)] at e2
    simp only [List.cons.injEq, and_true] at e2
    have r1 := reg_inj e2.1
    have r4 := itoa_inj e2.2
    exact ⟨rfl, by omega, by omega, by omega, by omega⟩
  · rw [lim3 _ _ _ _ _ (by omega)] at hl kl
    rw [ops4 q, ops4 q] at e2
    simp only [List.cons.injEq, and_true] at e2
    have r1 := reg_inj e2.1
    have r2 := reg_inj e2.2.1
    have r4 := itoa_inj e2.2.2
    exact ⟨rfl, by omega, by omega, by omega, by omega⟩
  · rw [lim4 _ _ _ _ _ (by omega)] at hl kl
    rw [ops5 q, ops5 q] at e2
    simp only [List.cons.injEq, and_true] at e2
    have r2 := reg_inj e2.1
    have r3 := reg_inj e2.2.1
    have r4 := itoa_inj e2.2.2
    exact ⟨rfl, by omega, by omega, by omega, by omega⟩
  · rw [lim5 _ _ _ _ _ (by omega)] at hl kl
    rw [ops6 q, ops6 q] at e2
    simp only [List.cons.injEq, and_true] at e2
    have r1 := reg_inj e2.1
    have r2 := reg_inj e2.2.1
    have r4 := itoa_inj e2.2.2
    exact ⟨rfl, by omega, by omega, by omega, by omega⟩
  · rw [lim6 _ _ _ _ _ (by omega)] at hl kl
    rw [ops7 q, ops7 q] at e2
    simp only [List.cons.injEq, and_true] at e2
    have r2 := reg_inj e2.1
    have r3 := reg_inj e2.2.1
    have r4 := itoa_inj e2.2.2
    exact ⟨rfl, by omega, by omega, by omega, by omega⟩
  · rw [lim7 _ _ _ _ _ (by omega)] at hl kl
    rw [ops8 (by omega), ops8 (by omega)] at e2
    simp only [List.cons.injEq, and_true] at e2
    have r1 := reg_inj e2.1
    have r2 := reg_inj e2.2.1
    have r4 := itoa_inj e2.2.2
    exact ⟨rfl, by omega, by omega, by omega, by omega⟩
  · rw [lim8 _ _ _ _ _ (by omega)] at hl kl
    rw [ops8 (by omega), ops8 (by omega)] at e2
    simp only [List.cons.injEq, and_true] at e2
    have r1 := reg_inj e2.1
    have r2 := reg_inj e2.2.1
    have r4 := itoa_inj e2.2.2
    exact ⟨rfl, by omega, by omega, by omega, by omega⟩
  · rw [lim9 _ _ _ _ _ (by omega)] at hl kl
    rw [ops9 q, ops9 q] at e2
    simp only [List.cons.injEq, and_true] at e2
    have r1 := reg_inj e2.1
    have r2 := reg_inj e2.2.1
    have r3 := reg_inj e2.2.2
    exact ⟨rfl, by omega, by omega, by omega, by omega⟩
  · rw [lim10 _ _ _ _ _ (by omega)] at hl kl
    rw [ops10 (by omega), ops10 (by omega)] at e2
    simp only [List.cons.injEq, and_true] at e2
    have r1 := reg_inj e2.1
    have r2 := reg_inj e2.2.1
    have r4 := itoa_inj e2.2.2
    exact ⟨rfl, by omega, by omega, by omega, by omega⟩
  · rw [lim11 _ _ _ _ _ (by omega)] at hl kl
    rw [ops10 (by omega), ops10 (by omega)] at e2
    simp only [List.cons.injEq, and_true] at e2
    have r1 := reg_inj e2.1
    have r2 := reg_inj e2.2.1
    have r4 := itoa_inj e2.2.2
    exact ⟨rfl, by omega, by omega, by omega, by omega⟩
  · rw [lim12 _ _ _ _ _ (by omega)] at hl kl
    rcases (show (45 ≤ o ∧ o ≤ 49) ∨ (50 ≤ o ∧ o ≤ 57) ∨ (58 ≤ o ∧ o ≤ 62) by omega) with z | z | z
    · rw [ops11 z, ops11 z] at e2
      simp only [List.cons.injEq, and_true] at e2
      have r1 := reg_inj e2.1
      have r2 := reg_inj e2.2.1
      have r3 := reg_inj e2.2.2
      exact ⟨rfl, by omega, by omega, by omega, by omega⟩
    · rw [ops12 z, ops12 z] at e2
      simp only [List.cons.injEq, and_true] at e2
      have r1 := reg_inj e2.1
      have r2 := reg_inj e2.2.1
      have r3 := reg_inj e2.2.2
      exact ⟨rfl, by omega, by omega, by omega, by omega⟩
    · rw [ops13 z, ops13 z] at e2
      simp only [List.cons.injEq, and_true] at e2
      have r1 := reg_inj e2.1
      have r2 := reg_inj e2.2.1
      have r3 := reg_inj e2.2.2
      exact ⟨rfl, by omega, by omega, by omega, by omega⟩
  · rw [lim13 _ _ _ _ _ (by omega)] at hl kl
    exact ⟨rfl, by omega, by omega, by omega, by omega⟩
  · rw [lim15 _ _ _ _ _ (by omega)] at hl kl
    rw [ops15 q, ops15 q] at e2
    simp only [List.cons.injEq, and_true] at e2
    have r1 := reg_inj e2.1
    have r2 := reg_inj e2.2.1
    have r4 := itoa_inj e2.2.2
    exact ⟨rfl, by omega, by omega, by omega, by omega⟩
  · rw [lim16 _ _ _ _ _ (by omega)] at hl kl
    rw [ops16 (by omega), ops16 (by omega)] at e2
    simp only [List.cons.injEq, and_true] at e2
    have r1 := reg_inj e2.1
    have r2 := reg_inj e2.2.1
    have r3 := reg_inj e2.2.2
    exact ⟨rfl, by omega, by omega, by omega, by omega⟩
  · rw [lim17 _ _ _ _ _ (by omega)] at hl kl
    rw [ops16 (by omega), ops16 (by omega)] at e2
    simp only [List.cons.injEq, and_true] at e2
    have r1 := reg_inj e2.1
    have r2 := reg_inj e2.2.1
    have r3 := reg_inj e2.2.2
    exact ⟨rfl, by omega, by omega, by omega, by omega⟩
  · rw [lim18 _ _ _ _ _ (by omega)] at hl kl
    rw [ops17 (by omega), ops17 (by omega)] at e2
    simp only [List.cons.injEq, and_true] at e2
    have r1 := reg_inj e2.1
    have r2 := reg_inj e2.2.1
    have r3 := reg_inj e2.2.2
    exact ⟨rfl, by omega, by omega, by omega, by omega⟩
  · rw [lim19 _ _ _ _ _ (by omega)] at hl kl
    rw [ops17 (by omega), ops17 (by omega)] at e2
    simp only [List.cons.injEq, and_true] at e2
    have r1 := reg_inj e2.1
    have r2 := reg_inj e2.2.1
    have r3 := reg_inj e2.2.2
    exact ⟨rfl, by omega, by omega, by omega, by omega⟩
end Go.Proofs.YtpbeamnogfjagaaGreatDoor.E
