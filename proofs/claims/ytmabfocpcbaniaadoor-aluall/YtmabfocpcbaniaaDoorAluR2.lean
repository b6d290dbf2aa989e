/-
  What the document's own Do, Taken and Second of layer 7 answer: the program's: contracts over the translation.
  Conditions: the arguments are numbers of their kinds.
-/
import Derived.Test.YtmabfocpcbaniaaDoorAluR
namespace Go.Proofs.YtmabfocpcbaniaaDoor
open Go Go.RowKit W M D A
set_option linter.unusedVariables false
set_option maxRecDepth 100000

theorem rplain_c (o a b : Int) (ho : 22 ≤ o ∧ o ≤ 40) (ha : Hid (B64 a)) (hb : Hid (B64 b)) (w : World) : Calls Tryd.prog 17 #[.int .i64 o, .int .u64 a, .int .u64 b] w fun e w' => e = .returned (.int .u64 (doV o a b)) ∧ w = w' := by
  rcases (show o = 22 ∨ o = 23 ∨ o = 24 ∨ o = 25 ∨ o = 26 ∨ o = 27 ∨ o = 28 ∨ o = 29 ∨ o = 30 ∨ o = 31 ∨ o = 32 ∨ o = 33 ∨ o = 34 ∨ o = 35 ∨ o = 36 ∨ o = 37 ∨ o = 38 ∨ o = 39 ∨ o = 40 by omega) with rfl | rfl | rfl | rfl | rfl | rfl | rfl | rfl | rfl | rfl | rfl | rfl | rfl | rfl | rfl | rfl | rfl | rfl | rfl
  · exact rplain_22 a b ha hb w
  · exact rplain_23 a b ha hb w
  · exact rplain_24 a b ha hb w
  · exact rplain_25 a b ha hb w
  · exact rplain_26 a b ha hb w
  · exact rplain_27 a b ha hb w
  · exact rplain_28 a b ha hb w
  · exact rplain_29 a b ha hb w
  · exact rplain_30 a b ha hb w
  · exact rplain_31 a b ha hb w
  · exact rplain_32 a b ha hb w
  · exact rplain_33 a b ha hb w
  · exact rplain_34 a b ha hb w
  · exact rplain_35 a b ha hb w
  · exact rplain_36 a b ha hb w
  · exact rplain_37 a b ha hb w
  · exact rplain_38 a b ha hb w
  · exact rplain_39 a b ha hb w
  · exact rplain_40 a b ha hb w
theorem rhalves_c (o a b : Int) (ho : 41 ≤ o ∧ o ≤ 49) (ha : Hid (B64 a)) (hb : Hid (B64 b)) (w : World) : Calls Tryd.prog 18 #[.int .i64 o, .int .u64 a, .int .u64 b] w fun e w' => e = .returned (.int .u64 (doV o a b)) ∧ w = w' := by
  rcases (show o = 41 ∨ o = 42 ∨ o = 43 ∨ o = 44 ∨ o = 45 ∨ o = 46 ∨ o = 47 ∨ o = 48 ∨ o = 49 by omega) with rfl | rfl | rfl | rfl | rfl | rfl | rfl | rfl | rfl
  · exact rhalves_41 a b ha hb w
  · exact rhalves_42 a b ha hb w
  · exact rhalves_43 a b ha hb w
  · exact rhalves_44 a b ha hb w
  · exact rhalves_45 a b ha hb w
  · exact rhalves_46 a b ha hb w
  · exact rhalves_47 a b ha hb w
  · exact rhalves_48 a b ha hb w
  · exact rhalves_49 a b ha hb w
theorem rproducts_c (o a b : Int) (ho : 50 ≤ o ∧ o ≤ 62) (ha : Hid (B64 a)) (hb : Hid (B64 b)) (w : World) : Calls Tryd.prog 19 #[.int .i64 o, .int .u64 a, .int .u64 b] w fun e w' => e = .returned (.int .u64 (doV o a b)) ∧ w = w' := by
  rcases (show o = 50 ∨ o = 51 ∨ o = 52 ∨ o = 53 ∨ o = 54 ∨ o = 55 ∨ o = 56 ∨ o = 57 ∨ o = 58 ∨ o = 59 ∨ o = 60 ∨ o = 61 ∨ o = 62 by omega) with rfl | rfl | rfl | rfl | rfl | rfl | rfl | rfl | rfl | rfl | rfl | rfl | rfl
  · exact rproducts_50 a b ha hb w
  · exact rproducts_51 a b ha hb w
  · exact rproducts_52 a b ha hb w
  · exact rproducts_53 a b ha hb w
  · exact rproducts_54 a b ha hb w
  · exact rproducts_55 a b ha hb w
  · exact rproducts_56 a b ha hb w
  · exact rproducts_57 a b ha hb w
  · exact rproducts_58 a b ha hb w
  · exact rproducts_59 a b ha hb w
  · exact rproducts_60 a b ha hb w
  · exact rproducts_61 a b ha hb w
  · exact rproducts_62 a b ha hb w
theorem kind_range (o : Int) : ((kindV o = 5 ∨ kindV o = 6) → 22 ≤ o ∧ o ≤ 40) ∧ ((kindV o = 7 ∨ kindV o = 8) → 41 ≤ o ∧ o ≤ 49) ∧ ((kindV o = 9 ∨ kindV o = 10) → 50 ≤ o ∧ o ≤ 62) := by
  by_cases h : 97 < o
  · rw [kind_none o h]; omega
  · by_cases h0 : o ≤ 0
    · rw [kindV, if_pos h0]; omega
    · have all : ∀ k : Nat, k < 98 → ((kindV k = 5 ∨ kindV k = 6) → 22 ≤ k ∧ k ≤ 40) ∧ ((kindV k = 7 ∨ kindV k = 8) → 41 ≤ k ∧ k ≤ 49) ∧ ((kindV k = 9 ∨ kindV k = 10) → 50 ≤ k ∧ k ≤ 62) := by decide
      have := all o.toNat (by omega)
      rw [Int.toNat_of_nonneg (by omega)] at this
      omega
theorem do_none (o a b : Int) (h5 : kindV o ≠ 5) (h6 : kindV o ≠ 6) (h7 : kindV o ≠ 7) (h8 : kindV o ≠ 8) (h9 : kindV o ≠ 9) (h10 : kindV o ≠ 10) : doV o a b = 0 := by
  rw [doV, tabV, if_neg h5, if_neg h6, if_neg h7, if_neg h8, if_neg h9, if_neg h10]; rfl
set_option maxHeartbeats 1000000 in
theorem rDo_c (o a b : Int) (ho : -9223372036854775808 ≤ o ∧ o ≤ 9223372036854775807) (ha : Hid (B64 a)) (hb : Hid (B64 b)) (w : World) :
    Calls Tryd.prog 10 #[.int .i64 o, .int .u64 a, .int .u64 b] w fun e w' => e = .returned (.int .u64 (doV o a b)) ∧ w.grownBy w' none := by
  have HK := Lib.hid (rKind_c o ho w)
  have HR := Lib.hid (kind_range o)
  have HN := Lib.hid (do_none o a b)
  generalize kindV o = k at *
  by_cases h5 : k = 5
  · subst h5
    have HC := Lib.hid (fun W => rplain_c o a b (HR.out.1 (Or.inl rfl)) ha hb W)
    clear HR HN
    go_enter Tryd.func10, Tryd.ntmps10
    go_wp2_with fail
    refine HK.out.mono ?_
    rintro e w1 ⟨rfl, hG⟩
    have HG := Lib.hid hG
    clear hG
    go_wp2_with fail
    refine (HC.out _).mono ?_
    rintro e w2 ⟨rfl, rfl⟩
    go_wp2_with fail
    go_ret
    exact ⟨rfl, HG.out⟩
  by_cases h6 : k = 6
  · subst h6
    have HC := Lib.hid (fun W => rplain_c o a b (HR.out.1 (Or.inr rfl)) ha hb W)
    clear HR HN
    go_enter Tryd.func10, Tryd.ntmps10
    go_wp2_with fail
    refine HK.out.mono ?_
    rintro e w1 ⟨rfl, hG⟩
    have HG := Lib.hid hG
    clear hG
    go_wp2_with fail
    refine (HC.out _).mono ?_
    rintro e w2 ⟨rfl, rfl⟩
    go_wp2_with fail
    go_ret
    exact ⟨rfl, HG.out⟩
  by_cases h7 : k = 7
  · subst h7
    have HC := Lib.hid (fun W => rhalves_c o a b (HR.out.2.1 (Or.inl rfl)) ha hb W)
    clear HR HN
    go_enter Tryd.func10, Tryd.ntmps10
    go_wp2_with fail
    refine HK.out.mono ?_
    rintro e w1 ⟨rfl, hG⟩
    have HG := Lib.hid hG
    clear hG
    go_wp2_with fail
    refine (HC.out _).mono ?_
    rintro e w2 ⟨rfl, rfl⟩
    go_wp2_with fail
    go_ret
    exact ⟨rfl, HG.out⟩
  by_cases h8 : k = 8
  · subst h8
    have HC := Lib.hid (fun W => rhalves_c o a b (HR.out.2.1 (Or.inr rfl)) ha hb W)
    clear HR HN
    go_enter Tryd.func10, Tryd.ntmps10
    go_wp2_with fail
    refine HK.out.mono ?_
    rintro e w1 ⟨rfl, hG⟩
    have HG := Lib.hid hG
    clear hG
    go_wp2_with fail
    refine (HC.out _).mono ?_
    rintro e w2 ⟨rfl, rfl⟩
    go_wp2_with fail
    go_ret
    exact ⟨rfl, HG.out⟩
  by_cases h9 : k = 9
  · subst h9
    have HC := Lib.hid (fun W => rproducts_c o a b (HR.out.2.2 (Or.inl rfl)) ha hb W)
    clear HR HN
    go_enter Tryd.func10, Tryd.ntmps10
    go_wp2_with fail
    refine HK.out.mono ?_
    rintro e w1 ⟨rfl, hG⟩
    have HG := Lib.hid hG
    clear hG
    go_wp2_with fail
    refine (HC.out _).mono ?_
    rintro e w2 ⟨rfl, rfl⟩
    go_wp2_with fail
    go_ret
    exact ⟨rfl, HG.out⟩
  by_cases h10 : k = 10
  · subst h10
    have HC := Lib.hid (fun W => rproducts_c o a b (HR.out.2.2 (Or.inr rfl)) ha hb W)
    clear HR HN
    go_enter Tryd.func10, Tryd.ntmps10
    go_wp2_with fail
    refine HK.out.mono ?_
    rintro e w1 ⟨rfl, hG⟩
    have HG := Lib.hid hG
    clear hG
    go_wp2_with fail
    refine (HC.out _).mono ?_
    rintro e w2 ⟨rfl, rfl⟩
    go_wp2_with fail
    go_ret
    exact ⟨rfl, HG.out⟩
  have d5 : (k == 5) = false := by simpa using h5
  have d6 : (k == 6) = false := by simpa using h6
  have d7 : (k == 7) = false := by simpa using h7
  have d8 : (k == 8) = false := by simpa using h8
  have d9 : (k == 9) = false := by simpa using h9
  have d10 : (k == 10) = false := by simpa using h10
  have HE := Lib.hid (HN.out h5 h6 h7 h8 h9 h10)
  clear HR HN
  go_enter Tryd.func10, Tryd.ntmps10
  go_wp2_with fail
  refine HK.out.mono ?_
  rintro e w1 ⟨rfl, hG⟩
  have HG := Lib.hid hG
  clear hG
  go_wp2_with fail
  go_ret
  exact ⟨ret_int HE.out.symm, HG.out⟩
theorem taken_none (o a b : Int) (h5 : o ≠ 5) (h6 : o ≠ 6) (h7 : o ≠ 7) (h8 : o ≠ 8) (h9 : o ≠ 9) (h10 : o ≠ 10) : takenV o a b = false := by
  rw [takenV, tBra, A.look, if_neg h10, A.look, if_neg h9, A.look, if_neg h8, A.look, if_neg h7, A.look, if_neg h6, A.look, if_neg h5]; rfl
set_option maxHeartbeats 1000000 in
theorem rTaken_c (o a b : Int) (ho : -9223372036854775808 ≤ o ∧ o ≤ 9223372036854775807) (ha : Hid (B64 a)) (hb : Hid (B64 b)) (w : World) :
    Calls Tryd.prog 12 #[.int .i64 o, .int .u64 a, .int .u64 b] w fun e w' => e = .returned (.bool (takenV o a b)) ∧ w.grownBy w' none := by
  have qa : 0 ≤ a ∧ a ≤ 18446744073709551615 := ha.out
  have qb : 0 ≤ b ∧ b ≤ 18446744073709551615 := hb.out
  by_cases h5 : o = 5
  · subst h5
    have HE := Lib.hid (taken_5 a b)
    go_enter Tryd.func12, Tryd.ntmps12
    go_wp2_with fail
    go_ret
    exact ⟨ret_bool HE.out.symm, gr_refl _ _⟩
  by_cases h6 : o = 6
  · subst h6
    have HE := Lib.hid (taken_6 a b)
    go_enter Tryd.func12, Tryd.ntmps12
    go_wp2_with fail
    go_ret
    exact ⟨ret_bool HE.out.symm, gr_refl _ _⟩
  by_cases h7 : o = 7
  · subst h7
    have HE := Lib.hid (taken_7 a b)
    go_enter Tryd.func12, Tryd.ntmps12
    go_wp2_with fail
    refine (rless_c a b true ha.out hb.out _).mono ?_
    rintro e w' ⟨rfl, rfl⟩
    go_wp2_with fail
    go_ret
    exact ⟨ret_bool HE.out.symm, gr_refl _ _⟩
  by_cases h8 : o = 8
  · subst h8
    have HE := Lib.hid (taken_8 a b)
    go_enter Tryd.func12, Tryd.ntmps12
    go_wp2_with fail
    refine (rless_c a b true ha.out hb.out _).mono ?_
    rintro e w' ⟨rfl, rfl⟩
    go_wp2_with fail
    go_ret
    exact ⟨ret_bool HE.out.symm, gr_refl _ _⟩
  by_cases h9 : o = 9
  · subst h9
    have HE := Lib.hid (taken_9 a b)
    go_enter Tryd.func12, Tryd.ntmps12
    go_wp2_with fail
    refine (rless_c a b false ha.out hb.out _).mono ?_
    rintro e w' ⟨rfl, rfl⟩
    go_wp2_with fail
    go_ret
    exact ⟨ret_bool HE.out.symm, gr_refl _ _⟩
  by_cases h10 : o = 10
  · subst h10
    have HE := Lib.hid (taken_10 a b)
    go_enter Tryd.func12, Tryd.ntmps12
    go_wp2_with fail
    refine (rless_c a b false ha.out hb.out _).mono ?_
    rintro e w' ⟨rfl, rfl⟩
    go_wp2_with fail
    go_ret
    exact ⟨ret_bool HE.out.symm, gr_refl _ _⟩
  have d5 : (o == 5) = false := by simpa using h5
  have d6 : (o == 6) = false := by simpa using h6
  have d7 : (o == 7) = false := by simpa using h7
  have d8 : (o == 8) = false := by simpa using h8
  have d9 : (o == 9) = false := by simpa using h9
  have d10 : (o == 10) = false := by simpa using h10
  have HE := Lib.hid (taken_none o a b h5 h6 h7 h8 h9 h10)
  go_enter Tryd.func12, Tryd.ntmps12
  go_wp2_with fail
  go_ret
  exact ⟨ret_bool HE.out.symm, gr_refl _ _⟩
set_option maxHeartbeats 1000000 in
theorem rSecond_c (o r1 r2 r3 im n b : Int) (ho : -9223372036854775808 ≤ o ∧ o ≤ 9223372036854775807) (hi : -9223372036854775808 ≤ im ∧ im ≤ 9223372036854775807) (hb : Hid (B64 b)) (w : World) :
    Calls Tryd.prog 14 #[.agg #[.int .i64 o, .int .i64 r1, .int .i64 r2, .int .i64 r3, .int .i64 im, .int .i64 n], .int .u64 b] w fun e w' => e = .returned (.int .u64 (secondV o im b)) ∧ w.grownBy w' none := by
  have HK := Lib.hid (fun W => rKind_c o ho W)
  have R0 := Lib.hid (Row.fresh w 27 [.int .i64 o, .int .i64 r1, .int .i64 r2, .int .i64 r3, .int .i64 im, .int .i64 n])
  have qb : 0 ≤ b ∧ b ≤ 18446744073709551615 := hb.out
  unfold secondV
  generalize kindV o = k at *
  by_cases h5 : k = 5
  · subst h5
    rw [if_pos (Or.inl rfl)]
    go_enter Tryd.func14, Tryd.ntmps14
    go_wp2_with fail
    refine (HK.out _).mono ?_
    rintro e w1 ⟨rfl, hG⟩
    have c4 := (R0.out.grown hG (by simp)).cell 4
    simp only [List.getElem?_cons_zero, List.getElem?_cons_succ] at c4
    have HG := Lib.hid (gr_trans (gr_alloc (gr_refl w none) _) hG)
    clear hG
    go_wp2_with fail
    go_ret
    exact ⟨rfl, HG.out⟩
  by_cases h7 : k = 7
  · subst h7
    rw [if_pos (Or.inr rfl)]
    go_enter Tryd.func14, Tryd.ntmps14
    go_wp2_with fail
    refine (HK.out _).mono ?_
    rintro e w1 ⟨rfl, hG⟩
    have c4 := (R0.out.grown hG (by simp)).cell 4
    simp only [List.getElem?_cons_zero, List.getElem?_cons_succ] at c4
    have HG := Lib.hid (gr_trans (gr_alloc (gr_refl w none) _) hG)
    clear hG
    go_wp2_with fail
    go_ret
    exact ⟨rfl, HG.out⟩
  rw [if_neg (by omega)]
  have d5 : (k == 5) = false := by simpa using h5
  have d7 : (k == 7) = false := by simpa using h7
  go_enter Tryd.func14, Tryd.ntmps14
  go_wp2_with fail
  refine (HK.out _).mono ?_
  rintro e w1 ⟨rfl, hG⟩
  have c4 := (R0.out.grown hG (by simp)).cell 4
  simp only [List.getElem?_cons_zero, List.getElem?_cons_succ] at c4
  have HG := Lib.hid (gr_trans (gr_alloc (gr_refl w none) _) hG)
  clear hG
  go_wp2_with fail
  go_ret
  exact ⟨rfl, HG.out⟩
end Go.Proofs.YtmabfocpcbaniaaDoor
