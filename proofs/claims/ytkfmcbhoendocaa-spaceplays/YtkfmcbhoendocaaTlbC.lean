/-
  What a leaf covers; functions of leaves; which leaf is the first: contracts over the program's translation.
  Conditions: the arguments are numbers of their kinds; the row stands.
-/
import Derived.Test.YtkfmcbhoendocaaTlbM
import Derived.Test.YtkfmcbhoendocaaLayPt
import Derived.Deep.Cut
namespace Go.Proofs.Ytkfmcbhoendocaa
open Go Go.RowKit W M A P
set_option linter.unusedVariables false

theorem tret_boo {a b : Bool} (h : a = b) : Ending.returned (.bool a) = .returned (.bool b) := by rw [h]
theorem beq_int (a b : Int) : (a == b) = decide (a = b) := by by_cases h : a = b <;> simp [h]
set_option maxHeartbeats 1000000 in
theorem covers_c (k : T.Lf) (hk : T.Fine k) (a : Int) (ha : B64 a) (w : World) :
    Calls Try.prog 68 #[T.vT k, .int .u64 a] w fun e w' => e = .returned (.bool (T.covT k a)) ∧ w.grownBy w' none := by
  obtain ⟨va, asid, pte, lev, glob⟩ := k
  obtain ⟨h1, h2, h3, h4, h5⟩ := hk
  simp only at h1 h2 h3 h4 h5
  have E12 := Lib.hid (T.cov_bits h1 ha 12)
  have E21 := Lib.hid (T.cov_bits h1 ha 21)
  have E30 := Lib.hid (T.cov_bits h1 ha 30)
  have hx := T.xor_64 h1 ha
  unfold T.covT T.vT
  simp only
  unfold B64 at *
  obtain rfl | rfl | rfl : lev = 0 ∨ lev = 1 ∨ lev = 2 := by omega
  · go_enter Try.func68, Try.ntmps68
    go_wp2_with fail
    go_ret
    exact ⟨tret_boo (by rw [beq_int]; exact decide_eq_decide.2 E12.out), gr_alloc (gr_refl _ _) _⟩
  · go_enter Try.func68, Try.ntmps68
    go_wp2_with fail
    go_ret
    exact ⟨tret_boo (by rw [beq_int]; exact decide_eq_decide.2 E21.out), gr_alloc (gr_refl _ _) _⟩
  · go_enter Try.func68, Try.ntmps68
    go_wp2_with fail
    go_ret
    exact ⟨tret_boo (by rw [beq_int]; exact decide_eq_decide.2 E30.out), gr_alloc (gr_refl _ _) _⟩

set_option maxHeartbeats 1000000 in
theorem find1_c (k : T.Lf) (hk : T.Fine k) (a s : Int) (ha : B64 a) (hs : B64 s) (b c : Nat) (w : World) (h1 : Row w b 22 [.int .u64 a]) (h2 : Row w c 22 [.int .u64 s]) :
    Calls Try.prog 70 #[T.vT k, .pointer (some ⟨b, 0, none⟩), .pointer (some ⟨c, 0, none⟩)] w fun e w' => e = .returned (.bool (T.keyT a s k)) ∧ w.grownBy w' none := by
  have CV := Lib.hid (fun W => covers_c k hk a ha W)
  have HR := Lib.hid (Row.fresh w 135 (T.cellsT k))
  have g0 := gr_alloc (gr_refl w none) (.cells (T.cellsT k).toArray 135)
  have r1 := (h1.grown g0 (by simp))
  have r2 := (h2.grown g0 (by simp))
  have c1 := h1.cell 0
  have c2 := h2.cell 0
  simp only [List.getElem?_cons_zero] at c1 c2
  have l1 := h1.lt
  have l2 := h2.lt
  unfold T.keyT
  obtain ⟨va, asid, pte, lev, glob⟩ := k
  obtain ⟨k1, k2, k3, k4, k5⟩ := hk
  simp only at k1 k2 k3 k4 k5
  unfold T.vT at *
  unfold T.cellsT at *
  simp only at *
  unfold B64 at *
  have RR := Lib.hid (And.intro g0 (And.intro r1 r2))
  clear g0 r1 r2 h1 h2
  generalize hcv : T.covT ⟨va, asid, pte, lev, glob⟩ a = cv at *
  clear hcv
  go_enter Try.func70, Try.ntmps70
  go_wp2_with fail
  refine (CV.out _).mono ?_
  rintro e w1 ⟨rfl, hG⟩
  have hR := HR.out.grown hG (by simp)
  have q3 : w1.cell? ⟨w.heap.size, 1, none⟩ = some (.int .u64 asid) := hR.cell 1
  have q4 : w1.cell? ⟨w.heap.size, 4, none⟩ = some (.bool glob) := hR.cell 4
  have r2 := (RR.out.2.2.grown hG (by simp)).cell 0
  simp only [List.getElem?_cons_zero] at r2
  have GG := Lib.hid (gr_trans RR.out.1 hG)
  clear hG hR CV HR RR c1 c2 l1 l2
  cases cv
  · go_wp2_with fail
    go_ret
    exact ⟨rfl, GG.out⟩
  · cases glob
    · go_wp2_with fail
      go_ret
      exact ⟨tret_boo (by rw [beq_int]; simp), GG.out⟩
    · go_wp2_with fail
      go_ret
      exact ⟨rfl, GG.out⟩
set_option maxHeartbeats 1000000 in
theorem flush1_c (k : T.Lf) (hk : T.Fine k) (al ev : Bool) (a s : Int) (ha : B64 a) (hs : B64 s) (b1 b2 b3 b4 : Nat) (w : World) (h1 : Row w b1 4 [.bool al]) (h2 : Row w b2 22 [.int .u64 a]) (h3 : Row w b3 4 [.bool ev]) (h4 : Row w b4 22 [.int .u64 s]) :
    Calls Try.prog 67 #[T.vT k, .pointer (some ⟨b1, 0, none⟩), .pointer (some ⟨b2, 0, none⟩), .pointer (some ⟨b3, 0, none⟩), .pointer (some ⟨b4, 0, none⟩)] w fun e w' => e = .returned (.bool (T.dropT al a ev s k)) ∧ w.grownBy w' none := by
  have CV := Lib.hid (fun W => covers_c k hk a ha W)
  have HR := Lib.hid (Row.fresh w 135 (T.cellsT k))
  have g0 := gr_alloc (gr_refl w none) (.cells (T.cellsT k).toArray 135)
  have c1 := h1.cell 0
  have c2 := h2.cell 0
  have c3 := h3.cell 0
  have c4 := h4.cell 0
  simp only [List.getElem?_cons_zero] at c1 c2 c3 c4
  have l1 := h1.lt
  have l2 := h2.lt
  have l3 := h3.lt
  have l4 := h4.lt
  unfold T.dropT
  obtain ⟨va, asid, pte, lev, glob⟩ := k
  obtain ⟨k1, k2, k3, k4, k5⟩ := hk
  simp only at k1 k2 k3 k4 k5
  unfold T.vT at *
  unfold T.cellsT at *
  simp only at *
  unfold B64 at *
  have RR := Lib.hid (And.intro g0 (And.intro h3 h4))
  clear g0 h1 h2 h3 h4
  generalize hcv : T.covT ⟨va, asid, pte, lev, glob⟩ a = cv at *
  clear hcv
  go_enter Try.func67, Try.ntmps67
  cases al
  · go_wp2_with fail
    refine (CV.out _).mono ?_
    rintro e w1 ⟨rfl, hG⟩
    have hR := HR.out.grown hG (by simp)
    have q3 : w1.cell? ⟨w.heap.size, 1, none⟩ = some (.int .u64 asid) := hR.cell 1
    have q4 : w1.cell? ⟨w.heap.size, 4, none⟩ = some (.bool glob) := hR.cell 4
    have r3 := ((RR.out.2.1.grown RR.out.1 (by simp)).grown hG (by simp)).cell 0
    have r4 := ((RR.out.2.2.grown RR.out.1 (by simp)).grown hG (by simp)).cell 0
    simp only [List.getElem?_cons_zero] at r3 r4
    have GG := Lib.hid (gr_trans RR.out.1 hG)
    clear hG hR CV HR RR c1 c2 c3 c4 l1 l2 l3 l4
    cases cv
    · go_wp2_with fail
      go_ret
      exact ⟨rfl, GG.out⟩
    · cases ev
      · by_cases hz : asid = s
        · subst hz
          go_wp2_with fail
          go_ret
          exact ⟨tret_boo (by cases glob <;> simp), GG.out⟩
        · have d : (asid == s) = false := by simpa using hz
          go_wp2_with fail
          go_ret
          exact ⟨tret_boo (by simp [hz]), GG.out⟩
      · go_wp2_with fail
        go_ret
        exact ⟨rfl, GG.out⟩
  · have GG := Lib.hid RR.out.1
    clear RR CV HR
    cases ev
    · by_cases hz : asid = s
      · subst hz
        go_wp2_with fail
        go_ret
        exact ⟨tret_boo (by cases glob <;> simp), GG.out⟩
      · have d : (asid == s) = false := by simpa using hz
        go_wp2_with fail
        go_ret
        exact ⟨tret_boo (by simp [hz]), GG.out⟩
    · go_wp2_with fail
      go_ret
      exact ⟨rfl, GG.out⟩
end Go.Proofs.Ytkfmcbhoendocaa
