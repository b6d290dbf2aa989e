/-
  Plain mathematics of layer 9, on: what is written to one register changes no other one; who may what; bits that are set and cleared.
  Conditions: none; nothing here speaks of the program.
-/
import Derived.Test.YtlbhkmigbnhngaaCsrN
namespace Go.Proofs.Ytlbhkmigbnhngaa.C
open Go Go.RowKit W D A
set_option linter.unusedVariables false

def numOf (j : Nat) : Int := [256, 260, 261, 262, 320, 321, 322, 323, 324, 384].getD j 0
theorem look_num {n : Int} {j : Nat} {f : Int → Int → Int} (h : A.look tR n = some (j, f)) : n = numOf j ∧ j < 10 := by
  have key : ∀ (L : Tr), (∀ r ∈ L, r.1 = numOf r.2.1 ∧ r.2.1 < 10) → A.look L n = some (j, f) → n = numOf j ∧ j < 10 := by
    intro L
    induction L with
    | nil => intro _ h; simp [A.look] at h
    | cons r L ih =>
      intro hL h
      obtain ⟨k, j', f'⟩ := r
      rw [A.look] at h
      split at h
      · rename_i e
        injection h with h; injection h with h1 h2; subst h1; subst e; exact hL (n, j', f') (by simp)
      · exact ih (fun r hr => hL r (by simp [hr])) h
  exact key tR (by decide) h
theorem gC_ne (c : Cs) {i j : Nat} (h : j ≠ i) (v : Int) : gC (c.set j v) i = gC c i := by
  unfold gC
  rw [List.getD_eq_getElem?_getD, List.getElem?_set_ne h, List.getD_eq_getElem?_getD]
theorem cnt_ne {m : Int} {g : Cs → Int → Int} {u : Int} (h : A.look tC m = some (g, u)) (c : Cs) {j : Nat} (hj : j < 10) (v t : Int) : g (c.set j v) t = g c t := by
  simp only [tC, A.look] at h
  split at h
  · injection h with h; injection h with h1 h2; subst h1; exact gC_ne c (by omega) v
  split at h
  · injection h with h; injection h with h1 h2; subst h1; rfl
  split at h
  · injection h with h; injection h with h1 h2; subst h1; exact gC_ne c (by omega) v
  · cases h
/-- What is written to one register changes no other one. -/
theorem read_apart (c : Cs) (n x m t : Int) (h : m ≠ n) : readV (writeV c n x) m t = readV c m t := by
  unfold writeV
  split
  · rename_i j f e
    obtain ⟨e1, hj⟩ := look_num e
    unfold readV
    cases e2 : A.look tR m with
    | some p =>
      obtain ⟨j', f'⟩ := p
      obtain ⟨e3, _⟩ := look_num e2
      exact gC_ne c (fun k => h (by rw [e1, e3, k])) _
    | none =>
      cases e4 : A.look tC m with
      | some p => obtain ⟨g, u⟩ := p; exact cnt_ne e4 c hj _ t
      | none => rfl
  · rfl
theorem may_user_w (c : Cs) (n : Int) : mayV c n 0 true = false := by
  unfold mayV
  split
  · rfl
  · split <;> rfl
theorem may_super (c : Cs) (n : Int) (h : mayV c n 1 true = true) : mayV c n 1 false = true := by
  unfold mayV at h ⊢
  cases e : A.look tR n with
  | some p => rfl
  | none =>
    rw [e] at h
    cases e4 : A.look tC n with
    | some p => rfl
    | none => rw [e4] at h; exact h
theorem may_user_r (c : Cs) (hc : Good c) (n : Int) (h : mayV c n 0 false = true) : (n = 3072 ∧ gC c 3 % 2 = 1) ∨ (n = 3073 ∧ gC c 3 / 2 % 2 = 1) ∨ (n = 3074 ∧ gC c 3 / 4 % 2 = 1) := by
  unfold mayV at h
  cases e : A.look tR n with
  | some p => rw [e] at h; have h : ((0 : Int) == 1) = true := h; simp at h
  | none =>
    rw [e] at h
    have u1 := user_eq (gC c 3) (hc.get 3) 0 (by omega)
    have u2 := user_eq (gC c 3) (hc.get 3) 1 (by omega)
    have u4 := user_eq (gC c 3) (hc.get 3) 2 (by omega)
    by_cases h4 : n = 3074
    · subst h4
      have k : (!(andV (gC c 3) 4 == 0)) = true := h
      have k2 := u4.symm.trans k
      exact Or.inr (Or.inr ⟨rfl, by simpa using k2⟩)
    by_cases h2 : n = 3073
    · subst h2
      have k : (!(andV (gC c 3) 2 == 0)) = true := h
      have k2 := u2.symm.trans k
      exact Or.inr (Or.inl ⟨rfl, by simpa using k2⟩)
    by_cases h1 : n = 3072
    · subst h1
      have k : (!(andV (gC c 3) 1 == 0)) = true := h
      have k2 := u1.symm.trans k
      exact Or.inl ⟨rfl, by simpa using k2⟩
    · simp only [tC, A.look, if_neg h4, if_neg h2, if_neg h1] at h
      simp at h
theorem and1 (x : Int) (hx : B64 x) : bits .and .u64 x 1 = x % 2 := by
  obtain ⟨x, rfl, kx⟩ := hx.nat
  have h := andV_nat x 1 kx (by omega)
  unfold andV at h
  rw [show (1 : Int) = ((1 : Nat) : Int) from rfl, h, Nat.and_one_is_mod]
  omega
end Go.Proofs.Ytlbhkmigbnhngaa.C
