/-
  What Do, Taken and Second of package alu answer: contracts over the program's translation.
  Conditions: the arguments are numbers of their kinds; the table of package decode's kinds holds what its text lays.
-/
import Derived.Test.YtmabfocpcbaniaaDoorAluT
namespace Go.Proofs.YtmabfocpcbaniaaDoor
open Go Go.RowKit Go.Maps W M D A
set_option linter.unusedVariables false

theorem ret_boo {a b : Bool} (h : a = b) : Ending.returned (.bool a) = .returned (.bool b) := by rw [h]
set_option maxHeartbeats 1000000 in
theorem works_c (o : Int) (ho : -9223372036854775808 ≤ o ∧ o ≤ 9223372036854775807) (w : World) (h : Tbl w) :
    Calls Tryd.prog 15 #[.int .i64 o] w (GivesM Does w (tabV (kindV o))) := by
  have HK := Lib.hid (Kind_c o ho w h)
  clear h
  generalize kindV o = k at *
  by_cases h5 : k = 5
  · subst h5
    go_enter Tryd.func15, Tryd.ntmps15
    go_wp2_with fail
    refine HK.out.mono ?_
    rintro e w' ⟨rfl, rfl⟩
    go_wp2_with fail
    refine (numbers_c _).mono ?_
    rintro e w' ⟨m, rfl, hT, hG⟩
    go_wp2_with fail
    go_ret
    exact ⟨m, rfl, hT, hG⟩
  by_cases h6 : k = 6
  · subst h6
    go_enter Tryd.func15, Tryd.ntmps15
    go_wp2_with fail
    refine HK.out.mono ?_
    rintro e w' ⟨rfl, rfl⟩
    go_wp2_with fail
    refine (registers_c _).mono ?_
    rintro e w' ⟨m, rfl, hT, hG⟩
    go_wp2_with fail
    go_ret
    exact ⟨m, rfl, hT, hG⟩
  by_cases h7 : k = 7
  · subst h7
    go_enter Tryd.func15, Tryd.ntmps15
    go_wp2_with fail
    refine HK.out.mono ?_
    rintro e w' ⟨rfl, rfl⟩
    go_wp2_with fail
    refine (numbers32_c _).mono ?_
    rintro e w' ⟨m, rfl, hT, hG⟩
    go_wp2_with fail
    go_ret
    exact ⟨m, rfl, hT, hG⟩
  by_cases h8 : k = 8
  · subst h8
    go_enter Tryd.func15, Tryd.ntmps15
    go_wp2_with fail
    refine HK.out.mono ?_
    rintro e w' ⟨rfl, rfl⟩
    go_wp2_with fail
    refine (registers32_c _).mono ?_
    rintro e w' ⟨m, rfl, hT, hG⟩
    go_wp2_with fail
    go_ret
    exact ⟨m, rfl, hT, hG⟩
  by_cases h9 : k = 9
  · subst h9
    go_enter Tryd.func15, Tryd.ntmps15
    go_wp2_with fail
    refine HK.out.mono ?_
    rintro e w' ⟨rfl, rfl⟩
    go_wp2_with fail
    refine (products_c _).mono ?_
    rintro e w' ⟨m, rfl, hT, hG⟩
    go_wp2_with fail
    go_ret
    exact ⟨m, rfl, hT, hG⟩
  by_cases h10 : k = 10
  · subst h10
    go_enter Tryd.func15, Tryd.ntmps15
    go_wp2_with fail
    refine HK.out.mono ?_
    rintro e w' ⟨rfl, rfl⟩
    go_wp2_with fail
    refine (products32_c _).mono ?_
    rintro e w' ⟨m, rfl, hT, hG⟩
    go_wp2_with fail
    go_ret
    exact ⟨m, rfl, hT, hG⟩
  have d5 : (k == 5) = false := by simpa using h5
  have d6 : (k == 6) = false := by simpa using h6
  have d7 : (k == 7) = false := by simpa using h7
  have d8 : (k == 8) = false := by simpa using h8
  have d9 : (k == 9) = false := by simpa using h9
  have d10 : (k == 10) = false := by simpa using h10
  have e0 : tabV k = [] := by rw [tabV, if_neg h5, if_neg h6, if_neg h7, if_neg h8, if_neg h9, if_neg h10]
  rw [e0]
  go_enter Tryd.func15, Tryd.ntmps15
  go_wp2_with fail
  refine HK.out.mono ?_
  rintro e w' ⟨rfl, rfl⟩
  go_wp2_with fail
  go_ret
  exact ⟨_, rfl, Or.inl ⟨rfl, rfl⟩, gr_refl _ _⟩
set_option maxHeartbeats 1000000 in
theorem Do_c (o a b : Int) (ho : -9223372036854775808 ≤ o ∧ o ≤ 9223372036854775807) (ha : B64 a) (hb : B64 b) (w : World) (h : Tbl w) :
    Calls Tryd.prog 9 #[.int .i64 o, .int .u64 a, .int .u64 b] w fun e w' => e = .returned (.int .u64 (doV o a b)) ∧ w.grownBy w' none := by
  have HW := Lib.hid (works_c o ho w h)
  have HA := Lib.hid ha
  have HB := Lib.hid hb
  unfold B64 at ha hb
  clear h
  go_enter Tryd.func9, Tryd.ntmps9
  go_wp2_with fail
  refine HW.out.mono ?_
  rintro e w1 ⟨m, rfl, hT, hG⟩
  rcases hT.lookT Tryd.underlying42 (zeroW _) o ho with ⟨hr, e0⟩ | ⟨v, f, hr, e0, hD⟩
  · have EZ := Lib.hid (show doV o a b = 0 by rw [doV, e0])
    have HG := Lib.hid hG
    clear hG hT e0
    go_wp2_with fail
    go_ret
    exact ⟨ret_int EZ.out.symm, HG.out⟩
  · have EZ := Lib.hid (show doV o a b = f a b by rw [doV, e0])
    obtain ⟨k, cap, rfl, hop, hbd, hc⟩ := hD
    unfold Opens at hop
    have HC := Lib.hid (hc w1 (cel_refl _) a b HA.out HB.out)
    have HG := Lib.hid hG
    clear hG hT e0 hc hbd
    go_wp2_with fail
    refine HC.out.mono ?_
    rintro e w2 ⟨rfl, hG2⟩
    go_wp2_with fail
    go_ret
    exact ⟨ret_int EZ.out.symm, gr_trans HG.out hG2⟩
set_option maxHeartbeats 1000000 in
theorem Taken_c (o a b : Int) (ho : -9223372036854775808 ≤ o ∧ o ≤ 9223372036854775807) (ha : B64 a) (hb : B64 b) (w : World) :
    Calls Tryd.prog 11 #[.int .i64 o, .int .u64 a, .int .u64 b] w fun e w' => e = .returned (.bool (takenV o a b)) ∧ w.grownBy w' none := by
  have HA := Lib.hid ha
  have HB := Lib.hid hb
  unfold B64 at ha hb
  go_enter Tryd.func11, Tryd.ntmps11
  go_wp2_with fail
  refine (branches_c _).mono ?_
  rintro e w1 ⟨m, rfl, hT, hG⟩
  rcases hT.lookT Tryd.underlying47 (zeroT _) o ho with ⟨hr, e0⟩ | ⟨v, f, hr, e0, hD⟩
  · have EZ := Lib.hid (show takenV o a b = false by rw [takenV, e0])
    have HG := Lib.hid hG
    clear hG hT e0
    go_wp2_with fail
    go_ret
    exact ⟨ret_boo EZ.out.symm, HG.out⟩
  · have EZ := Lib.hid (show takenV o a b = f a b by rw [takenV, e0])
    obtain ⟨k, cap, rfl, hop, hc⟩ := hD
    unfold Opens at hop
    have HC := Lib.hid (hc w1 (cel_refl _) a b HA.out HB.out)
    have HG := Lib.hid hG
    clear hG hT e0 hc
    go_wp2_with fail
    refine HC.out.mono ?_
    rintro e w2 ⟨rfl, rfl⟩
    go_wp2_with fail
    go_ret
    exact ⟨ret_boo EZ.out.symm, HG.out⟩
set_option maxHeartbeats 1000000 in
theorem Second_c (o r1 r2 r3 im n b : Int) (ho : -9223372036854775808 ≤ o ∧ o ≤ 9223372036854775807) (hi : -9223372036854775808 ≤ im ∧ im ≤ 9223372036854775807) (hb : B64 b) (w : World) (h : Tbl w) :
    Calls Tryd.prog 13 #[.agg #[.int .i64 o, .int .i64 r1, .int .i64 r2, .int .i64 r3, .int .i64 im, .int .i64 n], .int .u64 b] w fun e w' => e = .returned (.int .u64 (secondV o im b)) ∧ w.grownBy w' none := by
  have h' := h.grown (gr_alloc (gr_refl w none) (.cells #[.int .i64 o, .int .i64 r1, .int .i64 r2, .int .i64 r3, .int .i64 im, .int .i64 n] 27))
  have HK := Lib.hid (fun W (hW : Tbl W) => Kind_c o ho W hW)
  have HT := Lib.hid h
  have HT' := Lib.hid h'
  clear h h'
  unfold B64 at hb
  unfold secondV
  generalize kindV o = k at *
  by_cases h5 : k = 5
  · subst h5
    rw [if_pos (Or.inl rfl)]
    go_enter Tryd.func13, Tryd.ntmps13
    go_wp2_with fail
    refine (HK.out _ (by first | exact HT.out | exact HT'.out)).mono ?_
    rintro e w' ⟨rfl, rfl⟩
    go_wp2_with fail
    go_ret
    exact ⟨rfl, by first | exact gr_refl _ _ | exact gr_alloc (gr_refl _ _) _⟩
  by_cases h7 : k = 7
  · subst h7
    rw [if_pos (Or.inr rfl)]
    go_enter Tryd.func13, Tryd.ntmps13
    go_wp2_with fail
    refine (HK.out _ (by first | exact HT.out | exact HT'.out)).mono ?_
    rintro e w' ⟨rfl, rfl⟩
    go_wp2_with fail
    go_ret
    exact ⟨rfl, by first | exact gr_refl _ _ | exact gr_alloc (gr_refl _ _) _⟩
  rw [if_neg (by omega)]
  have d5 : (k == 5) = false := by simpa using h5
  have d7 : (k == 7) = false := by simpa using h7
  go_enter Tryd.func13, Tryd.ntmps13
  go_wp2_with fail
  refine (HK.out _ (by first | exact HT.out | exact HT'.out)).mono ?_
  rintro e w' ⟨rfl, rfl⟩
  go_wp2_with fail
  go_ret
  exact ⟨rfl, by first | exact gr_refl _ _ | exact gr_alloc (gr_refl _ _) _⟩
end Go.Proofs.YtmabfocpcbaniaaDoor
