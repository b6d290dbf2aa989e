/-
  What is kept does not show: plain mathematics of layer 12.
  Conditions: none; nothing here speaks of the program.
-/
import Derived.Test.YtkfmcbhoendocaaTlbT0
import Derived.Test.YtkfmcbhoendocaaLayK
namespace Go.Proofs.Ytkfmcbhoendocaa.T
open Go Go.RowKit W D A P M K
set_option linter.unusedVariables false

theorem sz_div {a b : Int} {l n : Int} (h0 : 0 ≤ l) (h : l ≤ n) (h2 : n ≤ 2) (he : a / szV l = b / szV l) : a / szV n = b / szV n := by
  obtain rfl | rfl | rfl : l = 0 ∨ l = 1 ∨ l = 2 := by omega
  all_goals obtain rfl | rfl | rfl : n = 0 ∨ n = 1 ∨ n = 2 := by omega
  all_goals first | exact he | (exfalso; omega) | (simp only [szV] at he ⊢; simp at he ⊢; omega)
theorem down_lvl {bs : List Int} {va k p s : Int} : ∀ (n : Nat) (page : Int) (g : Bool), (downV bs va k p s n page g).isf = false → 0 ≤ (downV bs va k p s n page g).lvl ∧ (downV bs va k p s n page g).lvl < n
  | 0, _, _, hf => absurd hf (by simp [downV, faultV])
  | n + 1, page, g, hf => by
    unfold downV at hf ⊢
    split
    · rename_i h1; rw [if_pos h1] at hf; exact absurd hf (by simp [faultV])
    · rename_i h1
      rw [if_neg h1] at hf
      split
      · rename_i h2
        rw [if_pos h2] at hf
        have := down_lvl n _ _ hf
        omega
      · rename_i h2
        rw [if_neg h2] at hf
        split
        · simp only [foundV]; omega
        · rename_i h3; rw [if_neg h3] at hf; exact absurd hf (by simp [faultV])
theorem down_cov {bs : List Int} {v0 v k0 p0 s0 k p s : Int} : ∀ (n : Nat) (page : Int) (g : Bool), n ≤ 3 → (downV bs v0 k0 p0 s0 n page g).isf = false →
    v0 / szV (downV bs v0 k0 p0 s0 n page g).lvl = v / szV (downV bs v0 k0 p0 s0 n page g).lvl → mayV (downV bs v0 k0 p0 s0 n page g).pte k p s = true →
    (downV bs v k p s n page g).isf = false ∧ (downV bs v k p s n page g).pte = (downV bs v0 k0 p0 s0 n page g).pte ∧ (downV bs v k p s n page g).lvl = (downV bs v0 k0 p0 s0 n page g).lvl
  | 0, _, _, _, hf, _, _ => absurd hf (by simp [downV, faultV])
  | n + 1, page, g, hn, hf, hc, hm => by
    have hl := down_lvl (n + 1) page g hf
    have hv : vpnV v n = vpnV v0 n := by
      unfold vpnV
      rw [sz_div hl.1 (by omega) (by omega) hc]
    have ha : addrV page v n = addrV page v0 n := by unfold addrV; rw [hv]
    unfold downV at hf hc hm ⊢
    rw [ha]
    by_cases h1 : okB bs.length (addrV page v0 n) 8 = false
    · rw [if_pos h1] at hf; exact absurd hf (by simp [faultV])
    · rw [if_neg h1] at hf hc hm ⊢
      rw [if_neg h1]
      by_cases h2 : tableV (getV bs (addrV page v0 n) 8) = true
      · rw [if_pos h2] at hf hc hm ⊢
        rw [if_pos h2]
        exact down_cov n _ _ (by omega) hf hc hm
      · rw [if_neg h2] at hf hc hm ⊢
        rw [if_neg h2]
        by_cases h3 : (alignedV (getV bs (addrV page v0 n) 8) n && mayV (getV bs (addrV page v0 n) 8) k0 p0 s0) = true
        · rw [if_pos h3] at hf hc hm ⊢
          rw [Bool.and_eq_true] at h3
          have hm' : mayV (getV bs (addrV page v0 n) 8) k p s = true := hm
          rw [if_pos (by rw [h3.1, hm']; rfl)]
          exact ⟨rfl, rfl, rfl⟩
        · rw [if_neg h3] at hf; exact absurd hf (by simp [faultV])
/-- The leaf is one that a walk found. -/
def Sound (bs : List Int) (sa : Int) (k : Lf) : Prop := ∃ s0 p0 k0, (walkV bs sa s0 p0 k0 k.va).isf = false ∧ (walkV bs sa s0 p0 k0 k.va).pte = k.pte ∧ (walkV bs sa s0 p0 k0 k.va).lvl = k.lev
theorem sound_walk {bs : List Int} {sa : Int} {k : Lf} (h : Sound bs sa k) {va st priv kind : Int} (hp : pagedV sa = true) (hc : canonV va = true) (hcv : covT k va = true) (hm : mayV k.pte kind priv st = true) :
    (walkV bs sa st priv kind va).isf = false ∧ (walkV bs sa st priv kind va).pte = k.pte ∧ (walkV bs sa st priv kind va).lvl = k.lev := by
  obtain ⟨s0, p0, k0, h1, h2, h3⟩ := h
  unfold walkV at h1 h2 h3 ⊢
  rw [if_pos hp] at h1 h2 h3 ⊢
  rw [if_pos hc]
  by_cases hc0 : canonV k.va = true
  · rw [if_pos hc0] at h1 h2 h3
    have := down_cov (v := va) (k := kind) (p := priv) (s := st) 3 _ _ (by omega) h1 (by rw [h3]; unfold covT at hcv; simpa using hcv) (by rw [h2]; exact hm)
    rw [h2, h3] at this
    exact this
  · rw [if_neg hc0] at h1; exact absurd h1 (by simp [faultV])
theorem put_mem {most : Nat} {L : List Lf} {k x : Lf} (h : x ∈ putT most L k) : x ∈ L ∨ x = k := by
  unfold putT at h
  split at h
  · exact .inl h
  · rcases List.mem_append.1 h with h | h
    · left
      split at h
      · exact List.mem_of_mem_tail h
      · exact h
    · exact .inr (List.mem_singleton.1 h)
theorem sound_to {bs : List Int} {L : List Lf} {most : Nat} {sa st priv kind va : Int} (hL : ∀ k ∈ L, Sound bs sa k) :
    toRV bs L sa st priv kind va = toV bs sa st priv kind va ∧
    ((toFV bs L sa st priv kind va).isf = (walkV bs sa st priv kind va).isf ∧ (toFV bs L sa st priv kind va).cause = (walkV bs sa st priv kind va).cause ∧ (toFV bs L sa st priv kind va).val = (walkV bs sa st priv kind va).val) ∧
    ∀ k ∈ toLV bs most L sa st priv kind va, Sound bs sa k := by
  refine ⟨?_, ?_, fun k hk => ?_⟩
  · unfold toRV
    cases h : hitV L sa st priv kind va with
    | none => rfl
    | some k =>
      obtain ⟨m1, m2, m3, m4, m5⟩ := hit_mem h
      unfold keyT at m2
      rw [Bool.and_eq_true] at m2
      obtain ⟨w1, w2, w3⟩ := sound_walk (hL k m1) m4 m5 m2.1 m3
      simp only
      unfold toV
      rw [if_pos m4, w1, w2, w3, if_neg (by simp)]
  · unfold toFV
    cases h : hitV L sa st priv kind va with
    | none => exact ⟨rfl, rfl, rfl⟩
    | some k =>
      obtain ⟨m1, m2, m3, m4, m5⟩ := hit_mem h
      unfold keyT at m2
      rw [Bool.and_eq_true] at m2
      obtain ⟨w1, w2, w3⟩ := sound_walk (hL k m1) m4 m5 m2.1 m3
      obtain ⟨q1, q2⟩ := (calm_walk bs sa st priv kind va).1 w1
      simp only
      exact ⟨w1.symm, q1.symm, q2.symm⟩
  · unfold toLV at hk
    split at hk
    · rename_i hm
      rw [Bool.and_eq_true] at hm
      rcases put_mem hk with h | h
      · exact hL k h
      · subst h
        exact ⟨st, priv, kind, by have := hm.2; simp only [Bool.not_eq_true'] at this; exact this, rfl, rfl⟩
    · exact hL k hk
theorem sound_flush {bs : List Int} {L : List Lf} {sa : Int} (hL : ∀ k ∈ L, Sound bs sa k) (all : Bool) (a : Int) (ev : Bool) (s : Int) : ∀ k ∈ flushT L all a ev s, Sound bs sa k := fun k hk => hL k (List.mem_filter.1 hk).1
end Go.Proofs.Ytkfmcbhoendocaa.T
