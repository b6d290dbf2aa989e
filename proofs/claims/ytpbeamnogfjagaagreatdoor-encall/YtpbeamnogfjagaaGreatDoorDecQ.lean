/-
  Plain mathematics of layer 4 (decode): which parts the instruction of an op has; within what; and words of which registers are changed.
  Conditions: none; nothing here speaks of the program.
-/
import Derived.Test.YtpbeamnogfjagaaGreatDoorDecP
namespace Go.Proofs.YtpbeamnogfjagaaGreatDoor.D
open Go Go.RowKit F
set_option linter.unusedVariables false

/-- The parts of a word whose op is o. -/
def shape (o : Int) (x : Nat) : Parts :=
  if o ≤ 0 then bar else if o ≤ 2 then tgt x (immV x 4) else if o ≤ 3 then tgt x (immV x 5) else if o ≤ 4 then src x (immV x 1) else if o ≤ 10 then par x (immV x 3) else if o ≤ 17 then src x (immV x 1) else if o ≤ 21 then par x (immV x 2) else if o ≤ 27 then src x (immV x 1) else if o ≤ 30 then src x (get x 20 6 : Nat) else if o ≤ 40 then thr x else if o ≤ 41 then src x (immV x 1) else if o ≤ 44 then src x (get x 20 5 : Nat) else if o ≤ 62 then thr x else if o ≤ 68 then bar else if o ≤ 69 then par x 0 else if o ≤ 75 then src x (get x 20 12 : Nat) else if o ≤ 76 then src x 0 else if o ≤ 86 then thr x else if o ≤ 87 then src x 0 else thr x
theorem shape0 (o : Int) (x : Nat) (h : o ≤ 0) : shape o x = bar := by
  unfold shape; rw [if_pos (by omega)]
theorem shape1 (o : Int) (x : Nat) (h : 1 ≤ o ∧ o ≤ 2) : shape o x = tgt x (immV x 4) := by
  unfold shape; rw [if_neg (by omega), if_pos (by omega)]
theorem shape2 (o : Int) (x : Nat) (h : 3 ≤ o ∧ o ≤ 3) : shape o x = tgt x (immV x 5) := by
  unfold shape; rw [if_neg (by omega), if_neg (by omega), if_pos (by omega)]
theorem shape3 (o : Int) (x : Nat) (h : 4 ≤ o ∧ o ≤ 4) : shape o x = src x (immV x 1) := by
  unfold shape; rw [if_neg (by omega), if_neg (by omega), if_neg (by omega), if_pos (by omega)]
theorem shape4 (o : Int) (x : Nat) (h : 5 ≤ o ∧ o ≤ 10) : shape o x = par x (immV x 3) := by
  unfold shape; rw [if_neg (by omega), if_neg (by omega), if_neg (by omega), if_neg (by omega), if_pos (by omega)]
theorem shape5 (o : Int) (x : Nat) (h : 11 ≤ o ∧ o ≤ 17) : shape o x = src x (immV x 1) := by
  unfold shape; rw [if_neg (by omega), if_neg (by omega), if_neg (by omega), if_neg (by omega), if_neg (by omega), if_pos (by omega)]
theorem shape6 (o : Int) (x : Nat) (h : 18 ≤ o ∧ o ≤ 21) : shape o x = par x (immV x 2) := by
  unfold shape; rw [if_neg (by omega), if_neg (by omega), if_neg (by omega), if_neg (by omega), if_neg (by omega), if_neg (by omega), if_pos (by omega)]
theorem shape7 (o : Int) (x : Nat) (h : 22 ≤ o ∧ o ≤ 27) : shape o x = src x (immV x 1) := by
  unfold shape; rw [if_neg (by omega), if_neg (by omega), if_neg (by omega), if_neg (by omega), if_neg (by omega), if_neg (by omega), if_neg (by omega), if_pos (by omega)]
theorem shape8 (o : Int) (x : Nat) (h : 28 ≤ o ∧ o ≤ 30) : shape o x = src x (get x 20 6 : Nat) := by
  unfold shape; rw [if_neg (by omega), if_neg (by omega), if_neg (by omega), if_neg (by omega), if_neg (by omega), if_neg (by omega), if_neg (by omega), if_neg (by omega), if_pos (by omega)]
theorem shape9 (o : Int) (x : Nat) (h : 31 ≤ o ∧ o ≤ 40) : shape o x = thr x := by
  unfold shape; rw [if_neg (by omega), if_neg (by omega), if_neg (by omega), if_neg (by omega), if_neg (by omega), if_neg (by omega), if_neg (by omega), if_neg (by omega), if_neg (by omega), if_pos (by omega)]
theorem shape10 (o : Int) (x : Nat) (h : 41 ≤ o ∧ o ≤ 41) : shape o x = src x (immV x 1) := by
  unfold shape; rw [if_neg (by omega), if_neg (by omega), if_neg (by omega), if_neg (by omega), if_neg (by omega), if_neg (by omega), if_neg (by omega), if_neg (by omega), if_neg (by omega), if_neg (by omega), if_pos (by omega)]
theorem shape11 (o : Int) (x : Nat) (h : 42 ≤ o ∧ o ≤ 44) : shape o x = src x (get x 20 5 : Nat) := by
  unfold shape; rw [if_neg (by omega), if_neg (by omega), if_neg (by omega), if_neg (by omega), if_neg (by omega), if_neg (by omega), if_neg (by omega), if_neg (by omega), if_neg (by omega), if_neg (by omega), if_neg (by omega), if_pos (by omega)]
theorem shape12 (o : Int) (x : Nat) (h : 45 ≤ o ∧ o ≤ 62) : shape o x = thr x := by
  unfold shape; rw [if_neg (by omega), if_neg (by omega), if_neg (by omega), if_neg (by omega), if_neg (by omega), if_neg (by omega), if_neg (by omega), if_neg (by omega), if_neg (by omega), if_neg (by omega), if_neg (by omega), if_neg (by omega), if_pos (by omega)]
theorem shape13 (o : Int) (x : Nat) (h : 63 ≤ o ∧ o ≤ 68) : shape o x = bar := by
  unfold shape; rw [if_neg (by omega), if_neg (by omega), if_neg (by omega), if_neg (by omega), if_neg (by omega), if_neg (by omega), if_neg (by omega), if_neg (by omega), if_neg (by omega), if_neg (by omega), if_neg (by omega), if_neg (by omega), if_neg (by omega), if_pos (by omega)]
theorem shape14 (o : Int) (x : Nat) (h : 69 ≤ o ∧ o ≤ 69) : shape o x = par x 0 := by
  unfold shape; rw [if_neg (by omega), if_neg (by omega), if_neg (by omega), if_neg (by omega), if_neg (by omega), if_neg (by omega), if_neg (by omega), if_neg (by omega), if_neg (by omega), if_neg (by omega), if_neg (by omega), if_neg (by omega), if_neg (by omega), if_neg (by omega), if_pos (by omega)]
theorem shape15 (o : Int) (x : Nat) (h : 70 ≤ o ∧ o ≤ 75) : shape o x = src x (get x 20 12 : Nat) := by
  unfold shape; rw [if_neg (by omega), if_neg (by omega), if_neg (by omega), if_neg (by omega), if_neg (by omega), if_neg (by omega), if_neg (by omega), if_neg (by omega), if_neg (by omega), if_neg (by omega), if_neg (by omega), if_neg (by omega), if_neg (by omega), if_neg (by omega), if_neg (by omega), if_pos (by omega)]
theorem shape16 (o : Int) (x : Nat) (h : 76 ≤ o ∧ o ≤ 76) : shape o x = src x 0 := by
  unfold shape; rw [if_neg (by omega), if_neg (by omega), if_neg (by omega), if_neg (by omega), if_neg (by omega), if_neg (by omega), if_neg (by omega), if_neg (by omega), if_neg (by omega), if_neg (by omega), if_neg (by omega), if_neg (by omega), if_neg (by omega), if_neg (by omega), if_neg (by omega), if_neg (by omega), if_pos (by omega)]
theorem shape17 (o : Int) (x : Nat) (h : 77 ≤ o ∧ o ≤ 86) : shape o x = thr x := by
  unfold shape; rw [if_neg (by omega), if_neg (by omega), if_neg (by omega), if_neg (by omega), if_neg (by omega), if_neg (by omega), if_neg (by omega), if_neg (by omega), if_neg (by omega), if_neg (by omega), if_neg (by omega), if_neg (by omega), if_neg (by omega), if_neg (by omega), if_neg (by omega), if_neg (by omega), if_neg (by omega), if_pos (by omega)]
theorem shape18 (o : Int) (x : Nat) (h : 87 ≤ o ∧ o ≤ 87) : shape o x = src x 0 := by
  unfold shape; rw [if_neg (by omega), if_neg (by omega), if_neg (by omega), if_neg (by omega), if_neg (by omega), if_neg (by omega), if_neg (by omega), if_neg (by omega), if_neg (by omega), if_neg (by omega), if_neg (by omega), if_neg (by omega), if_neg (by omega), if_neg (by omega), if_neg (by omega), if_neg (by omega), if_neg (by omega), if_neg (by omega), if_pos (by omega)]
theorem shape19 (o : Int) (x : Nat) (h : 88 ≤ o) : shape o x = thr x := by
  unfold shape; rw [if_neg (by omega), if_neg (by omega), if_neg (by omega), if_neg (by omega), if_neg (by omega), if_neg (by omega), if_neg (by omega), if_neg (by omega), if_neg (by omega), if_neg (by omega), if_neg (by omega), if_neg (by omega), if_neg (by omega), if_neg (by omega), if_neg (by omega), if_neg (by omega), if_neg (by omega), if_neg (by omega), if_neg (by omega)]

theorem look_or {L : Rws} {lo hi : Int} (h : ∀ p ∈ L, lo ≤ p.2 ∧ p.2 ≤ hi) (k : Int) : look L k = 0 ∨ (lo ≤ look L k ∧ look L k ≤ hi) := by
  induction L with
  | nil => exact Or.inl rfl
  | cons p L ih =>
    obtain ⟨a, b⟩ := p
    rw [look]
    split
    · exact Or.inr (h (a, b) (by simp))
    · exact ih fun p hp => h p (by simp [hp])
/-- None, or an op with its parts. -/
def Good (p : Int × Parts) (x : Nat) : Prop := p.1 = 0 ∨ (1 ≤ p.1 ∧ p.1 ≤ 97 ∧ p.2 = shape p.1 x)
theorem good_of {o : Int} {q : Parts} {x : Nat} (h : 1 ≤ o ∧ o ≤ 97) (hs : shape o x = q) : Good (o, q) x := Or.inr ⟨h.1, h.2, hs.symm⟩
theorem good_look {L : Rws} {lo hi : Int} (h : ∀ p ∈ L, lo ≤ p.2 ∧ p.2 ≤ hi) (hb : 1 ≤ lo ∧ hi ≤ 97) {q : Parts} {x : Nat} (k : Int) (hs : ∀ o, lo ≤ o ∧ o ≤ hi → shape o x = q) : Good (look L k, q) x := by
  rcases look_or h k with e | e
  · exact Or.inl e
  · exact good_of (by omega) (hs _ e)
theorem good_nil {q : Parts} {x : Nat} (k : Int) : Good (look [] k, q) x := Or.inl rfl
theorem good_bar (x : Nat) : Good (0, bar) x := Or.inl rfl
theorem mean_good (x : Nat) : Good (mean x) x := by
  by_cases h55 : get x 0 7 = 55
  · rw [show mean x = (1, tgt x (immV x 4)) from by simp [mean, h55]]
    exact good_of (by decide) (shape1 _ _ (by decide))
  by_cases h23 : get x 0 7 = 23
  · rw [show mean x = (2, tgt x (immV x 4)) from by simp [mean, h23]]
    exact good_of (by decide) (shape1 _ _ (by decide))
  by_cases h111 : get x 0 7 = 111
  · rw [show mean x = (3, tgt x (immV x 5)) from by simp [mean, h111]]
    exact good_of (by decide) (shape2 _ _ (by decide))
  by_cases h103 : get x 0 7 = 103
  · rw [show mean x = (look tIndirect (f3 x), src x (immV x 1)) from by simp [mean, h103]]
    exact good_look (lo := 4) (hi := 4) (by decide) (by decide) _ fun o h => shape3 o x (by omega)
  by_cases h99 : get x 0 7 = 99
  · rw [show mean x = (look tBranches (f3 x), par x (immV x 3)) from by simp [mean, h99]]
    exact good_look (lo := 5) (hi := 10) (by decide) (by decide) _ fun o h => shape4 o x (by omega)
  by_cases h3 : get x 0 7 = 3
  · rw [show mean x = (look tLoads (f3 x), src x (immV x 1)) from by simp [mean, h3]]
    exact good_look (lo := 11) (hi := 17) (by decide) (by decide) _ fun o h => shape5 o x (by omega)
  by_cases h35 : get x 0 7 = 35
  · rw [show mean x = (look tStores (f3 x), par x (immV x 2)) from by simp [mean, h35]]
    exact good_look (lo := 18) (hi := 21) (by decide) (by decide) _ fun o h => shape6 o x (by omega)
  by_cases h19 : get x 0 7 = 19
  · rw [show mean x = withN x (f3 x) from by simp [mean, h19]]
    unfold withN
    split
    · unfold tShifts
      split
      · exact good_look (lo := 28) (hi := 30) (by decide) (by decide) _ fun o h => shape8 o x (by omega)
      split
      · exact good_look (lo := 28) (hi := 30) (by decide) (by decide) _ fun o h => shape8 o x (by omega)
      · exact good_nil _
    · exact good_look (lo := 22) (hi := 27) (by decide) (by decide) _ fun o h => shape7 o x (by omega)
  by_cases h27 : get x 0 7 = 27
  · rw [show mean x = withN32 x (f3 x) (f7 x) from by simp [mean, h27]]
    unfold withN32
    split
    · exact good_of (by decide) (shape10 _ _ (by decide))
    · unfold tShifts32
      split
      · exact good_look (lo := 42) (hi := 44) (by decide) (by decide) _ fun o h => shape11 o x (by omega)
      split
      · exact good_look (lo := 42) (hi := 44) (by decide) (by decide) _ fun o h => shape11 o x (by omega)
      · exact good_nil _
  by_cases h51 : get x 0 7 = 51
  · rw [show mean x = (look (tRegs (f7 x)) (f3 x), thr x) from by simp [mean, h51]]
    unfold tRegs
    split
    · exact good_look (lo := 31) (hi := 40) (by decide) (by decide) _ fun o h => shape9 o x (by omega)
    split
    · exact good_look (lo := 31) (hi := 40) (by decide) (by decide) _ fun o h => shape9 o x (by omega)
    split
    · exact good_look (lo := 50) (hi := 57) (by decide) (by decide) _ fun o h => shape12 o x (by omega)
    · exact good_nil _
  by_cases h59 : get x 0 7 = 59
  · rw [show mean x = (look (tRegs32 (f7 x)) (f3 x), thr x) from by simp [mean, h59]]
    unfold tRegs32
    split
    · exact good_look (lo := 45) (hi := 62) (by decide) (by decide) _ fun o h => shape12 o x (by omega)
    split
    · exact good_look (lo := 45) (hi := 62) (by decide) (by decide) _ fun o h => shape12 o x (by omega)
    split
    · exact good_look (lo := 45) (hi := 62) (by decide) (by decide) _ fun o h => shape12 o x (by omega)
    · exact good_nil _
  by_cases h15 : get x 0 7 = 15
  · rw [show mean x = (look tFences (f3 x), bar) from by simp [mean, h15]]
    exact good_look (lo := 63) (hi := 68) (by decide) (by decide) _ fun o h => shape13 o x (by omega)
  by_cases h115 : get x 0 7 = 115
  · rw [show mean x = sysV x (f3 x) (f7 x) from by simp [mean, h115]]
    unfold sysV
    split
    · exact good_look (lo := 70) (hi := 75) (by decide) (by decide) _ fun o h => shape15 o x (by omega)
    split
    · exact good_of (by decide) (shape14 _ _ (by decide))
    · exact good_look (lo := 63) (hi := 68) (by decide) (by decide) _ fun o h => shape13 o x (by omega)
  by_cases h47 : get x 0 7 = 47
  · rw [show mean x = atoV x (f3 x) from by simp [mean, h47]]
    unfold atoV
    have hb : look tAtomics (get x 27 5 : Nat) = 0 ∨ (76 ≤ look tAtomics (get x 27 5 : Nat) ∧ look tAtomics (get x 27 5 : Nat) ≤ 86) := look_or (by decide) _
    generalize look tAtomics (get x 27 5 : Nat) = o at *
    simp only
    split
    · exact good_bar x
    split
    · split
      · exact good_bar x
      · split
        · exact good_of (by decide) (shape18 _ _ (by decide))
        · exact good_of (by decide) (shape16 _ _ (by decide))
    · split
      · exact good_of (by omega) (shape19 _ _ (by omega))
      · exact good_of (by omega) (shape17 _ _ (by omega))
  rw [show mean x = (0, bar) from by simp [mean, h55, h23, h111, h103, h99, h3, h35, h19, h27, h51, h59, h15, h115, h47]]
  exact good_bar x
/-- The instruction of any word: an op, and the parts of that op. -/
theorem word_shape (x : Nat) : 0 ≤ (wordV x).1 ∧ (wordV x).1 ≤ 97 ∧ wordV x = ((wordV x).1, shape (wordV x).1 x) := by
  rw [wordV]
  split
  · exact ⟨by simp, by simp, by rw [shape0 0 x (by decide)]⟩
  · rename_i h
    rcases mean_good x with e | ⟨h1, h2, h3⟩
    · exact absurd e h
    · exact ⟨by omega, h2, by rw [← h3]⟩

/-! ### Words that differ in one register -/
theorem gat_congr {x v : Nat} : ∀ (L : Spans) (k : Nat), (∀ p ∈ L, get v p.1 p.2 = get x p.1 p.2) → gat v k L = gat x k L
  | [], _, _ => rfl
  | (l, m) :: L, k, h => by rw [gat, gat, h (l, m) (by simp), gat_congr L (k + m) fun p hp => h p (by simp [hp])]
theorem imm_congr {x v : Nat} (f : Int) (h : ∀ p ∈ spn f, get v p.1 p.2 = get x p.1 p.2) : immV v f = immV x f := by
  rw [immV, immV, gat_congr (spn f) (zer f) h]
/-- The same op. -/
theorem mean_same {x v : Nat} (hM : get v 0 7 = get x 0 7) (h12 : get v 12 3 = get x 12 3) (h25 : get v 25 7 = get x 25 7) (h26 : get v 26 6 = get x 26 6) (h27 : get v 27 5 = get x 27 5) (h20 : get v 20 5 = get x 20 5)
    (hk : ¬ (get x 0 7 = 115 ∧ get x 12 3 = 0)) : (mean v).1 = (mean x).1 := by
  have e3 : f3 v = f3 x := by rw [f3, f3, h12]
  have e7 : f7 v = f7 x := by rw [f7, f7, h25]
  by_cases h55 : get x 0 7 = 55
  · have hv : get v 0 7 = 55 := by rw [hM, h55]
    simp [mean, hv, h55]
  by_cases h23 : get x 0 7 = 23
  · have hv : get v 0 7 = 23 := by rw [hM, h23]
    simp [mean, hv, h23]
  by_cases h111 : get x 0 7 = 111
  · have hv : get v 0 7 = 111 := by rw [hM, h111]
    simp [mean, hv, h111]
  by_cases h103 : get x 0 7 = 103
  · have hv : get v 0 7 = 103 := by rw [hM, h103]
    simp [mean, hv, h103, e3]
  by_cases h99 : get x 0 7 = 99
  · have hv : get v 0 7 = 99 := by rw [hM, h99]
    simp [mean, hv, h99, e3]
  by_cases h3 : get x 0 7 = 3
  · have hv : get v 0 7 = 3 := by rw [hM, h3]
    simp [mean, hv, h3, e3]
  by_cases h35 : get x 0 7 = 35
  · have hv : get v 0 7 = 35 := by rw [hM, h35]
    simp [mean, hv, h35, e3]
  by_cases h19 : get x 0 7 = 19
  · have hv : get v 0 7 = 19 := by rw [hM, h19]
    have e1 : mean v = withN v (f3 v) := by simp [mean, hv]
    have e2 : mean x = withN x (f3 x) := by simp [mean, h19]
    rw [e1, e2, e3, withN, withN, h26]
    split <;> rfl
  by_cases h27k : get x 0 7 = 27
  · have hv : get v 0 7 = 27 := by rw [hM, h27k]
    have e1 : mean v = withN32 v (f3 v) (f7 v) := by simp [mean, hv]
    have e2 : mean x = withN32 x (f3 x) (f7 x) := by simp [mean, h27k]
    rw [e1, e2, e3, e7, withN32, withN32]
    split <;> rfl
  by_cases h51 : get x 0 7 = 51
  · have hv : get v 0 7 = 51 := by rw [hM, h51]
    simp [mean, hv, h51, e3, e7]
  by_cases h59 : get x 0 7 = 59
  · have hv : get v 0 7 = 59 := by rw [hM, h59]
    simp [mean, hv, h59, e3, e7]
  by_cases h15 : get x 0 7 = 15
  · have hv : get v 0 7 = 15 := by rw [hM, h15]
    simp [mean, hv, h15, e3]
  by_cases h115 : get x 0 7 = 115
  · have hv : get v 0 7 = 115 := by rw [hM, h115]
    have e1 : mean v = sysV v (f3 v) (f7 v) := by simp [mean, hv]
    have e2 : mean x = sysV x (f3 x) (f7 x) := by simp [mean, h115]
    have hn : f3 x ≠ 0 := by intro e; apply hk; refine ⟨h115, ?_⟩; unfold f3 at e; omega
    rw [e1, e2, e3, e7, sysV, sysV, if_pos hn, if_pos hn]
  by_cases h47 : get x 0 7 = 47
  · have hv : get v 0 7 = 47 := by rw [hM, h47]
    have e1 : mean v = atoV v (f3 v) := by simp [mean, hv]
    have e2 : mean x = atoV x (f3 x) := by simp [mean, h47]
    rw [e1, e2, e3, atoV, atoV, h27, h20]
    split
    · rfl
    split
    · split
      · rfl
      · rfl
    · rfl
  have hn : ∀ y : Nat, get y 0 7 = get x 0 7 → mean y = (0, bar) := fun y hy => by
    unfold mean
    rw [if_neg (by omega), if_neg (by omega), if_neg (by omega), if_neg (by omega), if_neg (by omega), if_neg (by omega), if_neg (by omega), if_neg (by omega), if_neg (by omega), if_neg (by omega), if_neg (by omega), if_neg (by omega), if_neg (by omega), if_neg (by omega)]
  rw [hn v hM, hn x rfl]
theorem word_same {x v : Nat} (hM : get v 0 7 = get x 0 7) (h12 : get v 12 3 = get x 12 3) (h25 : get v 25 7 = get x 25 7) (h26 : get v 26 6 = get x 26 6) (h27 : get v 27 5 = get x 27 5) (h20 : get v 20 5 = get x 20 5)
    (hk : ¬ (get x 0 7 = 115 ∧ get x 12 3 = 0)) : (wordV v).1 = (wordV x).1 := by
  have := mean_same hM h12 h25 h26 h27 h20 hk
  rw [wordV, wordV, this]
  split <;> simp [this]
theorem sys_op (x : Nat) (h : get x 0 7 = 115 ∧ get x 12 3 = 0) : (wordV x).1 = 0 ∨ (65 ≤ (wordV x).1 ∧ (wordV x).1 ≤ 69) := by
  have e2 : mean x = sysV x (f3 x) (f7 x) := by simp [mean, h.1]
  have e3 : f3 x = 0 := by unfold f3; rw [h.2]; rfl
  have hb : (mean x).1 = 0 ∨ (65 ≤ (mean x).1 ∧ (mean x).1 ≤ 69) := by
    rw [e2, e3, sysV, if_neg (by decide)]
    split
    · exact Or.inr (show (65 : Int) ≤ 69 ∧ (69 : Int) ≤ 69 by decide)
    · rcases look_or (L := tWholes) (lo := 65) (hi := 68) (by decide) x with e | e
      · exact Or.inl e
      · exact Or.inr (by simp only; omega)
  rw [wordV]
  split
  · exact Or.inl rfl
  · exact hb
/-- The word with another register to write. -/
def setd (x a : Nat) : Nat := x % 128 + a * 128 + x / 4096 * 4096
/-- .. with another first register to read. -/
def sets (x b : Nat) : Nat := x % 32768 + b * 32768 + x / 1048576 * 1048576
theorem setd_lt (x a : Nat) (hx : x < 4294967296) (ha : a < 32) : setd x a < 4294967296 := by unfold setd; omega
theorem sets_lt (x b : Nat) (hx : x < 4294967296) (hb : b < 32) : sets x b < 4294967296 := by unfold sets; omega
theorem clear_d (x : Nat) (hx : x < 4294967296) : x &&& 4294963327 = x % 128 + x / 4096 * 4096 := by
  have mb : ∀ i, i < 32 → Nat.testBit 4294963327 i = (decide (i < 7) || decide (12 ≤ i)) := by decide
  apply Nat.eq_of_testBit_eq
  intro i
  rw [Nat.testBit_and, show x % 128 + x / 4096 * 4096 = 2 ^ 12 * (x / 4096) + x % 128 by omega, Nat.testBit_two_pow_mul_add _ (by omega), show x / 4096 = x >>> 12 from (Nat.shiftRight_eq_div_pow x 12).symm, show x % 128 = x % 2 ^ 7 from rfl, Nat.testBit_mod_two_pow, Nat.testBit_shiftRight]
  by_cases hi : i < 32
  · rw [mb i hi]
    by_cases h1 : i < 12
    · rw [if_pos h1]; by_cases h2 : i < 7
      · simp [h2]
      · simp [h2, show ¬ 12 ≤ i by omega]
    · rw [if_neg h1, show 12 + (i - 12) = i by omega]; simp [show 12 ≤ i by omega]
  · have hf : x.testBit i = false := Nat.testBit_lt_two_pow (Nat.lt_of_lt_of_le hx (by have : (2 : Nat) ^ 32 ≤ 2 ^ i := Nat.pow_le_pow_right (by omega) (by omega); exact this))
    rw [if_neg (by omega), show 12 + (i - 12) = i by omega, hf]; rfl
theorem clear_s (x : Nat) (hx : x < 4294967296) : x &&& 4293951487 = x % 32768 + x / 1048576 * 1048576 := by
  have mb : ∀ i, i < 32 → Nat.testBit 4293951487 i = (decide (i < 15) || decide (20 ≤ i)) := by decide
  apply Nat.eq_of_testBit_eq
  intro i
  rw [Nat.testBit_and, show x % 32768 + x / 1048576 * 1048576 = 2 ^ 20 * (x / 1048576) + x % 32768 by omega, Nat.testBit_two_pow_mul_add _ (by omega), show x / 1048576 = x >>> 20 from (Nat.shiftRight_eq_div_pow x 20).symm, show x % 32768 = x % 2 ^ 15 from rfl, Nat.testBit_mod_two_pow, Nat.testBit_shiftRight]
  by_cases hi : i < 32
  · rw [mb i hi]
    by_cases h1 : i < 20
    · rw [if_pos h1]; by_cases h2 : i < 15
      · simp [h2]
      · simp [h2, show ¬ 20 ≤ i by omega]
    · rw [if_neg h1, show 20 + (i - 20) = i by omega]; simp [show 20 ≤ i by omega]
  · have hf : x.testBit i = false := Nat.testBit_lt_two_pow (Nat.lt_of_lt_of_le hx (by have : (2 : Nat) ^ 32 ≤ 2 ^ i := Nat.pow_le_pow_right (by omega) (by omega); exact this))
    rw [if_neg (by omega), show 20 + (i - 20) = i by omega, hf]; rfl
theorem setd_bits (x a : Nat) (hx : x < 4294967296) (ha : a < 32) : bits .or .u32 (bits .andNot .u32 (x : Int) 3968) ((a : Int) * 128) = (setd x a : Nat) := by
  have e0 : bits .andNot .u32 (x : Int) 3968 = ((x &&& 4294963327 : Nat) : Int) := u32_andNot_nat x 3968 hx (by omega)
  have ea : (a : Int) * (128 : Int) = ((a <<< 7 : Nat) : Int) := by rw [Nat.shiftLeft_eq]; omega
  have sa : a <<< 7 = a * 128 := Nat.shiftLeft_eq a 7
  rw [e0, ea, clear_d x hx, u32_or_nat _ _ (by omega) (by omega), or_mid _ a 7 5 (by omega) (by omega) (by omega) (by omega) (by omega), sa]
  unfold setd; omega
theorem sets_bits (x b : Nat) (hx : x < 4294967296) (hb : b < 32) : bits .or .u32 (bits .andNot .u32 (x : Int) 1015808) ((b : Int) * 32768) = (sets x b : Nat) := by
  have e0 : bits .andNot .u32 (x : Int) 1015808 = ((x &&& 4293951487 : Nat) : Int) := u32_andNot_nat x 1015808 hx (by omega)
  have ea : (b : Int) * (32768 : Int) = ((b <<< 15 : Nat) : Int) := by rw [Nat.shiftLeft_eq]; omega
  have sa : b <<< 15 = b * 32768 := Nat.shiftLeft_eq b 15
  rw [e0, ea, clear_s x hx, u32_or_nat _ _ (by omega) (by omega), or_mid _ b 15 5 (by omega) (by omega) (by omega) (by omega) (by omega), sa]
  unfold sets; omega
theorem setd_gets (x a : Nat) (ha : a < 32) : get (setd x a) 7 5 = a ∧ get (setd x a) 0 7 = get x 0 7 ∧ get (setd x a) 12 3 = get x 12 3 ∧ get (setd x a) 25 7 = get x 25 7 ∧ get (setd x a) 26 6 = get x 26 6 ∧ get (setd x a) 27 5 = get x 27 5 ∧ get (setd x a) 20 5 = get x 20 5 ∧ get (setd x a) 15 5 = get x 15 5 ∧ get (setd x a) 20 6 = get x 20 6 ∧ get (setd x a) 20 12 = get x 20 12 ∧ get (setd x a) 12 20 = get x 12 20 ∧ get (setd x a) 21 10 = get x 21 10 ∧ get (setd x a) 20 1 = get x 20 1 ∧ get (setd x a) 12 8 = get x 12 8 ∧ get (setd x a) 31 1 = get x 31 1 := by
  simp only [get_div, setd]
  refine ⟨?_, ?_, ?_, ?_, ?_, ?_, ?_, ?_, ?_, ?_, ?_, ?_, ?_, ?_, ?_⟩ <;> omega
theorem sets_gets (x b : Nat) (hb : b < 32) : get (sets x b) 15 5 = b ∧ get (sets x b) 0 7 = get x 0 7 ∧ get (sets x b) 12 3 = get x 12 3 ∧ get (sets x b) 25 7 = get x 25 7 ∧ get (sets x b) 26 6 = get x 26 6 ∧ get (sets x b) 27 5 = get x 27 5 ∧ get (sets x b) 20 5 = get x 20 5 ∧ get (sets x b) 7 5 = get x 7 5 ∧ get (sets x b) 20 6 = get x 20 6 ∧ get (sets x b) 20 12 = get x 20 12 := by
  simp only [get_div, sets]
  refine ⟨?_, ?_, ?_, ?_, ?_, ?_, ?_, ?_, ?_, ?_⟩ <;> omega
theorem two_ranges (o : Int) (h : o = 4 ∨ (11 ≤ o ∧ o ≤ 17) ∨ (22 ≤ o ∧ o ≤ 62) ∨ 70 ≤ o) : (4 ≤ o ∧ o ≤ 4) ∨ (11 ≤ o ∧ o ≤ 17) ∨ (22 ≤ o ∧ o ≤ 27) ∨ (28 ≤ o ∧ o ≤ 30) ∨ (31 ≤ o ∧ o ≤ 40) ∨ (41 ≤ o ∧ o ≤ 41) ∨ (42 ≤ o ∧ o ≤ 44) ∨ (45 ≤ o ∧ o ≤ 62) ∨ (70 ≤ o ∧ o ≤ 75) ∨ (76 ≤ o ∧ o ≤ 76) ∨ (77 ≤ o ∧ o ≤ 86) ∨ (87 ≤ o ∧ o ≤ 87) ∨ (88 ≤ o) := by omega
/-- An op that has a register to write, and none to read. -/
theorem reg_one (x a : Nat) (ha : a < 32) (h : 1 ≤ (wordV x).1 ∧ (wordV x).1 ≤ 3) :
    ∃ im, wordV x = ((wordV x).1, ((get x 7 5 : Nat) : Int), 0, 0, im) ∧ wordV (setd x a) = ((wordV x).1, (a : Int), 0, 0, im) := by
  obtain ⟨d75, d0_7, d12_3, d25_7, d26_6, d27_5, d20_5, d15_5, d20_6, d20_12, d12_20, d21_10, d20_1, d12_8, d31_1⟩ := setd_gets x a ha
  have hk : ¬ (get x 0 7 = 115 ∧ get x 12 3 = 0) := fun e => by have := sys_op x e; omega
  have hs := word_same d0_7 d12_3 d25_7 d26_6 d27_5 d20_5 hk
  have h1 := (word_shape x).2.2
  have h2 := (word_shape (setd x a)).2.2
  rw [hs] at h2
  generalize hw : (wordV x).1 = o at *
  by_cases h3 : o ≤ 2
  · rw [shape1 o _ (by omega), tgt] at h1 h2
    rw [imm_congr 4 (by intro p hp; simp [spn] at hp; subst hp; exact d12_20), d75] at h2
    exact ⟨_, h1, h2⟩
  · rw [shape2 o _ (by omega), tgt] at h1 h2
    rw [imm_congr 5 (by intro p hp; simp [spn] at hp; rcases hp with rfl | rfl | rfl | rfl; exact d21_10; exact d20_1; exact d12_8; exact d31_1), d75] at h2
    exact ⟨_, h1, h2⟩
/-- An op that has one to write, and one to read or two. -/
theorem reg_two (x a b : Nat) (ha : a < 32) (hb : b < 32) (h : (wordV x).1 = 4 ∨ (11 ≤ (wordV x).1 ∧ (wordV x).1 ≤ 17) ∨ (22 ≤ (wordV x).1 ∧ (wordV x).1 ≤ 62) ∨ 70 ≤ (wordV x).1) :
    ∃ r im, wordV x = ((wordV x).1, ((get x 7 5 : Nat) : Int), ((get x 15 5 : Nat) : Int), r, im) ∧ wordV (setd x a) = ((wordV x).1, (a : Int), ((get x 15 5 : Nat) : Int), r, im) ∧ wordV (sets x b) = ((wordV x).1, ((get x 7 5 : Nat) : Int), (b : Int), r, im) := by
  obtain ⟨d75, d0_7, d12_3, d25_7, d26_6, d27_5, d20_5, d15_5, d20_6, d20_12, d12_20, d21_10, d20_1, d12_8, d31_1⟩ := setd_gets x a ha
  obtain ⟨s15, s0_7, s12_3, s25_7, s26_6, s27_5, s20_5, s7_5, s20_6, s20_12⟩ := sets_gets x b hb
  have hk : ¬ (get x 0 7 = 115 ∧ get x 12 3 = 0) := fun e => by have := sys_op x e; omega
  have hs := word_same d0_7 d12_3 d25_7 d26_6 d27_5 d20_5 hk
  have hs' := word_same s0_7 s12_3 s25_7 s26_6 s27_5 s20_5 hk
  have hq := (word_shape x).2.1
  have h1 := (word_shape x).2.2
  have h2 := (word_shape (setd x a)).2.2
  have h3 := (word_shape (sets x b)).2.2
  rw [hs] at h2
  rw [hs'] at h3
  have i1 : immV (setd x a) 1 = immV x 1 := imm_congr 1 (by intro p hp; simp [spn] at hp; subst hp; exact d20_12)
  have i2 : immV (sets x b) 1 = immV x 1 := imm_congr 1 (by intro p hp; simp [spn] at hp; subst hp; exact s20_12)
  generalize hw : (wordV x).1 = o at *
  rcases two_ranges o h with hr | hr | hr | hr | hr | hr | hr | hr | hr | hr | hr | hr | hr
  · rw [shape3 o _ hr, src] at h1 h2 h3
    rw [d75, d15_5, i1] at h2
    rw [s7_5, s15, i2] at h3
    exact ⟨_, _, h1, h2, h3⟩
  · rw [shape5 o _ hr, src] at h1 h2 h3
    rw [d75, d15_5, i1] at h2
    rw [s7_5, s15, i2] at h3
    exact ⟨_, _, h1, h2, h3⟩
  · rw [shape7 o _ hr, src] at h1 h2 h3
    rw [d75, d15_5, i1] at h2
    rw [s7_5, s15, i2] at h3
    exact ⟨_, _, h1, h2, h3⟩
  · rw [shape8 o _ hr, src] at h1 h2 h3
    rw [d75, d15_5, d20_6] at h2
    rw [s7_5, s15, s20_6] at h3
    exact ⟨_, _, h1, h2, h3⟩
  · rw [shape9 o _ hr, thr] at h1 h2 h3
    rw [d75, d15_5, d20_5] at h2
    rw [s7_5, s15, s20_5] at h3
    exact ⟨_, _, h1, h2, h3⟩
  · rw [shape10 o _ hr, src] at h1 h2 h3
    rw [d75, d15_5, i1] at h2
    rw [s7_5, s15, i2] at h3
    exact ⟨_, _, h1, h2, h3⟩
  · rw [shape11 o _ hr, src] at h1 h2 h3
    rw [d75, d15_5, d20_5] at h2
    rw [s7_5, s15, s20_5] at h3
    exact ⟨_, _, h1, h2, h3⟩
  · rw [shape12 o _ hr, thr] at h1 h2 h3
    rw [d75, d15_5, d20_5] at h2
    rw [s7_5, s15, s20_5] at h3
    exact ⟨_, _, h1, h2, h3⟩
  · rw [shape15 o _ hr, src] at h1 h2 h3
    rw [d75, d15_5, d20_12] at h2
    rw [s7_5, s15, s20_12] at h3
    exact ⟨_, _, h1, h2, h3⟩
  · rw [shape16 o _ hr, src] at h1 h2 h3
    rw [d75, d15_5] at h2
    rw [s7_5, s15] at h3
    exact ⟨_, _, h1, h2, h3⟩
  · rw [shape17 o _ hr, thr] at h1 h2 h3
    rw [d75, d15_5, d20_5] at h2
    rw [s7_5, s15, s20_5] at h3
    exact ⟨_, _, h1, h2, h3⟩
  · rw [shape18 o _ hr, src] at h1 h2 h3
    rw [d75, d15_5] at h2
    rw [s7_5, s15] at h3
    exact ⟨_, _, h1, h2, h3⟩
  · rw [shape19 o _ hr, thr] at h1 h2 h3
    rw [d75, d15_5, d20_5] at h2
    rw [s7_5, s15, s20_5] at h3
    exact ⟨_, _, h1, h2, h3⟩
end Go.Proofs.YtpbeamnogfjagaaGreatDoor.D
