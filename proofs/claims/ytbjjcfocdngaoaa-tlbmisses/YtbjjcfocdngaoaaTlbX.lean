/-
  What one that was looked up finds again: plain mathematics of layer 12.
  Conditions: none; nothing here speaks of the program.
-/
import Derived.Test.YtbjjcfocdngaoaaTlbT0
import Derived.Test.YtbjjcfocdngaoaaLayK
namespace Go.Proofs.Ytbjjcfocdngaoaa.T
open Go Go.RowKit W D A P M K
set_option linter.unusedVariables false
section
variable {bs : List Int} {sa st priv kind va : Int}
theorem find_one {k : Lf} {a s : Int} (hc : covT k a = true) (hs : k.asid = s) : findT [k] a s = some k := by
  unfold findT keyT
  simp [hc, hs]
/-- What is kept of a walk is found, and lets it. -/
theorem again (hp : pagedV sa = true) (hc : canonV va = true) (hi : (walkV bs sa st priv kind va).isf = false) : findT [lfV (walkV bs sa st priv kind va) va (asidV sa)] va (asidV sa) = some (lfV (walkV bs sa st priv kind va) va (asidV sa)) ∧ mayV (lfV (walkV bs sa st priv kind va) va (asidV sa)).pte kind priv st = true :=
  ⟨find_one (by unfold covT lfV; simp) rfl, (walk_may hp hi).1⟩
theorem flush_one (R : Wr) (va s : Int) : flushT [lfV R va s] false va true 0 = [] := by
  unfold flushT dropT covT lfV
  simp
theorem misses_all {x1 x2 n1 n2 n4 : Int} {F1 F2 : Wr} {L1 L2 L3 L4 : List Lf} (hx1 : toRV bs [] sa st priv kind va = x1) (hF1 : toFV bs [] sa st priv kind va = F1) (hL1 : toLV bs 8 [] sa st priv kind va = L1) (hn1 : toNV [] 0 sa st priv kind va = n1)
    (hx2 : toRV bs L1 sa st priv kind va = x2) (hF2 : toFV bs L1 sa st priv kind va = F2) (hL2 : toLV bs 8 L1 sa st priv kind va = L2) (hn2 : toNV L1 n1 sa st priv kind va = n2) (hL3 : flushT L2 false va true 0 = L3) (hL4 : toLV bs 8 L3 sa st priv kind va = L4) (hn4 : toNV L3 n2 sa st priv kind va = n4) :
    x2 = x1 ∧ (F2.isf = F1.isf ∧ F2.cause = F1.cause ∧ F2.val = F1.val) ∧
    (((F1.isf = true ∧ n1 = 1 ∧ n2 = 2 ∧ L2 = []) ∨ (n1 = 0 ∧ n2 = 0 ∧ L2 = [])) ∨ (F1.isf = false ∧ n1 = 1 ∧ n2 = 1 ∧ L3 = [] ∧ n4 = 2 ∧ L4.length = 1)) := by
  cases hp : pagedV sa
  · obtain ⟨y1, y2, y3, y4⟩ := to_un (bs := bs) (L := []) (n := 0) (st := st) (priv := priv) (kind := kind) (va := va) (most := 8) hp
    rw [y3] at hL1; subst hL1
    obtain ⟨z1, z2, z3, z4⟩ := to_un (bs := bs) (L := []) (n := n1) (st := st) (priv := priv) (kind := kind) (va := va) (most := 8) hp
    exact ⟨by rw [← hx1, ← hx2], ⟨by rw [← hF1, ← hF2], by rw [← hF1, ← hF2], by rw [← hF1, ← hF2]⟩, .inl (.inr ⟨by rw [← hn1, y4], by rw [← hn2, z4, ← hn1, y4], by rw [← hL2, z3]⟩)⟩
  · cases hc : canonV va
    · obtain ⟨y1, y2, y3, y4⟩ := to_nc (bs := bs) (L := []) (n := 0) (st := st) (priv := priv) (kind := kind) (va := va) (most := 8) hp hc
      rw [y3] at hL1; subst hL1
      obtain ⟨z1, z2, z3, z4⟩ := to_nc (bs := bs) (L := []) (n := n1) (st := st) (priv := priv) (kind := kind) (va := va) (most := 8) hp hc
      exact ⟨by rw [← hx1, ← hx2], ⟨by rw [← hF1, ← hF2], by rw [← hF1, ← hF2], by rw [← hF1, ← hF2]⟩, .inl (.inr ⟨by rw [← hn1, y4], by rw [← hn2, z4, ← hn1, y4], by rw [← hL2, z3]⟩)⟩
    · have hh : hitV [] sa st priv kind va = none := hit_none hp hc (fun k hk => by cases hk)
      cases hi : (walkV bs sa st priv kind va).isf
      · obtain ⟨y1, y2, y3, y4⟩ := to_m (bs := bs) (L := []) (n := 0) (most := 8) hp hc hh hi
        obtain ⟨g1, g2⟩ := again hp hc hi
        have hk : L1 = [lfV (walkV bs sa st priv kind va) va (asidV sa)] := by rw [← hL1, y3]; rfl
        rw [hk] at hx2 hF2 hL2 hn2
        obtain ⟨z1, z2, z3, z4⟩ := to_hit (bs := bs) (n := n1) (most := 8) hp hc g1 g2
        rw [z3] at hL2
        rw [← hL2, flush_one] at hL3
        subst hL3
        obtain ⟨u1, u2, u3, u4⟩ := to_m (bs := bs) (L := []) (n := n2) (most := 8) hp hc hh hi
        obtain ⟨q1, q2⟩ := (calm_walk bs sa st priv kind va).1 hi
        refine ⟨by rw [← hx1, ← hx2, y1, z1]; rfl, ⟨by rw [← hF1, ← hF2, y2, z2, hi]; rfl, by rw [← hF1, ← hF2, y2, z2, q1]; rfl, by rw [← hF1, ← hF2, y2, z2, q2]; rfl⟩, .inr ⟨by rw [← hF1, y2, hi], by rw [← hn1, y4]; rfl, by rw [← hn2, z4, ← hn1, y4]; rfl, rfl, by rw [← hn4, u4, ← hn2, z4, ← hn1, y4]; rfl, by rw [← hL4, u3]; rfl⟩⟩
      · obtain ⟨y1, y2, y3, y4⟩ := to_mf (bs := bs) (L := []) (n := 0) (most := 8) hp hc hh hi
        rw [y3] at hL1; subst hL1
        obtain ⟨z1, z2, z3, z4⟩ := to_mf (bs := bs) (L := []) (n := n1) (most := 8) hp hc hh hi
        exact ⟨by rw [← hx1, ← hx2], ⟨by rw [← hF1, ← hF2], by rw [← hF1, ← hF2], by rw [← hF1, ← hF2]⟩, .inl (.inl ⟨by rw [← hF1, y2, hi], by rw [← hn1, y4]; rfl, by rw [← hn2, z4, ← hn1, y4]; rfl, by rw [← hL2, z3]⟩)⟩
end
end Go.Proofs.Ytbjjcfocdngaoaa.T
