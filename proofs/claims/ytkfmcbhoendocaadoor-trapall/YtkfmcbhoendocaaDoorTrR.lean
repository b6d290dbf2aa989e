/-
  What the document's own Enter, Back, Pending and Wakes (package suzerainref14) answer: contracts over the translation, by the program's plain functions.
  Conditions: the arguments are numbers of their kinds.
-/
import Derived.Test.YtkfmcbhoendocaaDoorTrLw
import Derived.Test.YtkfmcbhoendocaaDoorTrW
namespace Go.Proofs.YtkfmcbhoendocaaDoor
open Go Go.RowKit Go.Maps W M D A C J
set_option linter.unusedVariables false
set_option linter.unusedSimpArgs false

/-- Which bits are asked of. -/
def Bit (k b : Int) : Prop := (k = 1 ∧ b = 2) ∨ (k = 5 ∧ b = 32) ∨ (k = 8 ∧ b = 256)
theorem b1 : Bit 1 2 := Or.inl ⟨rfl, rfl⟩
theorem b5 : Bit 5 32 := Or.inr (Or.inl ⟨rfl, rfl⟩)
theorem b8 : Bit 8 256 := Or.inr (Or.inr ⟨rfl, rfl⟩)
theorem rbit_c (x k b : Int) (hx : B64 x) (h : Bit k b) (w : World) : Calls Tryd.prog 20 #[.int .u64 x, .int .i64 k] w fun e w' => e = .returned (.bool (onV x b)) ∧ w = w' := by
  have e1 := eq_2 hx
  have e5 := eq_32 hx
  have e8 := eq_256 hx
  unfold B64 at hx
  rcases h with ⟨rfl, rfl⟩ | ⟨rfl, rfl⟩ | ⟨rfl, rfl⟩
  all_goals
    go_enter Tryd.func20, Tryd.ntmps20
    go_wp2_with fail
    go_ret
    exact ⟨rfl, rfl⟩
theorem rset_c (x k b : Int) (s : Bool) (hx : B64 x) (h : Bit k b) (w : World) : Calls Tryd.prog 21 #[.int .u64 x, .int .i64 k, .bool s] w fun e w' => e = .returned (.int .u64 (withV x b s)) ∧ w = w' := by
  have hb : B64 b := by rcases h with ⟨rfl, rfl⟩ | ⟨rfl, rfl⟩ | ⟨rfl, rfl⟩ <;> decide
  have hn := not_bd hx hb
  have e := Lib.hid (set_eq hx hb s)
  generalize withV x b s = y at *
  unfold orV notV at e
  unfold notV at hn
  unfold B64 at hx hn
  rcases h with ⟨rfl, rfl⟩ | ⟨rfl, rfl⟩ | ⟨rfl, rfl⟩ <;> cases s
  all_goals
    go_enter Tryd.func21, Tryd.ntmps21
    go_wp2_with fail
    go_ret
    exact ⟨by rw [← e.out]; rfl, rfl⟩
set_option maxHeartbeats 1000000 in
theorem rWakes_c (c : Cs) (hc : C.Good c) (w : World) :
    Calls Tryd.prog 14 #[vC c] w fun e w' => e = .returned (.bool (anyV (bothV c))) ∧ w.grownBy w' none := by
  have HR := Row.fresh w 24 (lC c)
  have G := Lib.hid (gr_alloc (gr_refl w none) (.cells (lC c).toArray 24))
  obtain ⟨a0, a1, a2, a3, a4, a5, a6, a7, a8, a9, a10, a11, rfl⟩ := twelve hc.1
  rw [vC_12]
  have h8 : B64 a8 := hc.get 8
  have h1 : B64 a1 := hc.get 1
  have hb : B64 (andV a8 a1) := and_bd h8 h1
  have c8 := HR.cell 8
  have c1 := HR.cell 1
  rw [show bothV [a0, a1, a2, a3, a4, a5, a6, a7, a8, a9, a10, a11] = andV a8 a1 from rfl]
  have T1 := Lib.hid (fun W => rbit_c _ 1 2 hb b1 W)
  have T5 := Lib.hid (fun W => rbit_c _ 5 32 hb b5 W)
  clear hc
  unfold anyV
  unfold B64 at h8 h1 hb
  unfold andV at hb T1 T5 ⊢
  generalize onV (bits .and .u64 a8 a1) 2 = s at *
  generalize onV (bits .and .u64 a8 a1) 32 = t at *
  go_enter Tryd.func14, Tryd.ntmps14
  go_wp2_with fail
  refine (T1.out _).mono ?_
  rintro e w' ⟨rfl, rfl⟩
  cases s
  · go_wp2_with fail
    refine (T5.out _).mono ?_
    rintro e w' ⟨rfl, rfl⟩
    go_wp2_with fail
    go_ret
    exact ⟨rfl, G.out⟩
  · go_wp2_with fail
    go_ret
    exact ⟨rfl, G.out⟩
set_option maxHeartbeats 2000000 in
theorem rPending_c (c : Cs) (hc : C.Good c) (p : Int) (hp : -9223372036854775808 ≤ p ∧ p ≤ 9223372036854775807) (w : World) :
    Calls Tryd.prog 12 #[vC c, .int .i64 p] w fun e w' => e = .returned (vI (takeV (gC c 0) (bothV c) p) (takesV (gC c 0) (bothV c) p)) ∧ w.grownBy w' none := by
  have HR := Row.fresh w 24 (lC c)
  have G := Lib.hid (gr_alloc (gr_refl w none) (.cells (lC c).toArray 24))
  obtain ⟨a0, a1, a2, a3, a4, a5, a6, a7, a8, a9, a10, a11, rfl⟩ := twelve hc.1
  rw [vC_12]
  have h0 : B64 a0 := hc.get 0
  have h8 : B64 a8 := hc.get 8
  have h1 : B64 a1 := hc.get 1
  have hb : B64 (andV a8 a1) := and_bd h8 h1
  have c0 := HR.cell 0
  have c8 := HR.cell 8
  have c1 := HR.cell 1
  rw [show bothV [a0, a1, a2, a3, a4, a5, a6, a7, a8, a9, a10, a11] = andV a8 a1 from rfl, show gC [a0, a1, a2, a3, a4, a5, a6, a7, a8, a9, a10, a11] 0 = a0 from rfl]
  have T0 := Lib.hid (fun W => rbit_c _ 1 2 h0 b1 W)
  have T1 := Lib.hid (fun W => rbit_c _ 1 2 hb b1 W)
  have T5 := Lib.hid (fun W => rbit_c _ 5 32 hb b5 W)
  clear hc
  have ways : (p = 0 ∧ letsV a0 p = true) ∨ (p = 1 ∧ letsV a0 p = onV a0 2) ∨ ((p ≠ 0 ∧ p ≠ 1) ∧ letsV a0 p = false) := by
    unfold letsV
    by_cases e0 : p = 0
    · rw [if_pos e0]; exact Or.inl ⟨e0, rfl⟩
    · rw [if_neg e0]
      by_cases e1 : p = 1
      · rw [if_pos e1]; exact Or.inr (Or.inl ⟨e1, rfl⟩)
      · rw [if_neg e1]; exact Or.inr (Or.inr ⟨⟨e0, e1⟩, rfl⟩)
  unfold takeV takesV anyV firstV
  unfold B64 at h8 h1 hb h0
  unfold andV at hb T1 T5 ⊢
  obtain ⟨bb, hbb⟩ : ∃ bb, bits .and .u64 a8 a1 = bb := ⟨_, rfl⟩
  rw [hbb] at hb T1 T5 ⊢
  generalize letsV a0 p = l at *
  generalize onV bb 2 = s at *
  generalize onV bb 32 = t at *
  generalize onV a0 2 = l' at *
  rcases ways with ⟨rfl, rfl⟩ | ⟨rfl, rfl⟩ | ⟨⟨e0, e1⟩, rfl⟩ <;> (try cases l') <;> (try cases l) <;> cases s <;> cases t
  all_goals
    simp only [Bool.true_and, Bool.false_and, Bool.or_false, Bool.false_or, Bool.true_or, Bool.or_true, reduceIte, Bool.false_eq_true]
    go_enter Tryd.func12, Tryd.ntmps12
    go_wp2_with fail
    iterate 3 try (
      first
        | (with_reducible refine (T0.out _).mono ?_; rintro e w' ⟨rfl, rfl⟩; go_wp2_with fail)
        | (with_reducible refine (T1.out _).mono ?_; rintro e w' ⟨rfl, rfl⟩; go_wp2_with fail)
        | (with_reducible refine (T5.out _).mono ?_; rintro e w' ⟨rfl, rfl⟩; go_wp2_with fail))
    go_ret2
    exact ⟨rfl, G.out⟩
end Go.Proofs.YtkfmcbhoendocaaDoor
