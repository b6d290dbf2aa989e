/-
  What the document's own halves of q 2 (package suzerainref05: two) are: contracts over the translation, by the program's plain functions.
  Conditions: the argument is a half.
-/
import Derived.Test.YtpbeamnogfjagaaGreatDoorCompZ
namespace Go.Proofs.YtpbeamnogfjagaaGreatDoor.refHalf
open Go Go.RowKit F W M D
set_option linter.unusedVariables false
set_option maxRecDepth 100000

set_option maxRecDepth 100000 in
set_option maxHeartbeats 4000000 in
theorem two0 (h : Nat) (hh : h < 65536) (hf : F.get h 13 3 = 0) (w : World) :
    Calls Tryz.prog 34 #[.int .u32 h] w fun e w' => e = .returned (.agg (insn 2 (cl (form h 2 0)))) ∧ w.grownBy w' none := by
  have HR := Lib.hid (Row.fresh w 23 six0)
  have H7 := Lib.hid (fun W => rGet_n h 7 5 (by omega) (by decide) (by decide) W)
  have H2 := Lib.hid (fun W => rGet_n h 2 5 (by omega) (by decide) (by decide) W)
  have H12 := Lib.hid (fun W => rGet_n h 12 1 (by omega) (by decide) (by decide) W)
  have H13 := Lib.hid (fun W => rGet_n h 13 3 (by omega) (by decide) (by decide) W)
  have b7 := get_lt h 7 5
  have b2 := get_lt h 2 5
  have b12 := bit_le h 12
  rw [hf] at H13
  clear hf
  rw [show cl (form h 2 0) = (28, ((F.get h 7 5 : Nat) : Int), ((F.get h 7 5 : Nat) : Int), 0, D.shiftV h) from rfl]
  have HS := Lib.hid (fun W => rshift_c h hh W)
  generalize D.shiftV h = n at *
  generalize F.get h 7 5 = r at *
  generalize F.get h 2 5 = s at *
  generalize F.get h 12 1 = b at *
  go_enter Tryz.func34, Tryz.ntmps34
  go_wp2_with fail
  refine (H7.out _).mono ?_
  rintro e w0 ⟨rfl, rfl⟩
  go_wp2_with fail
  refine (H2.out _).mono ?_
  rintro e w0 ⟨rfl, rfl⟩
  go_wp2_with fail
  refine (H12.out _).mono ?_
  rintro e w0 ⟨rfl, rfl⟩
  go_wp2_with fail
  refine (H13.out _).mono ?_
  rintro e w0 ⟨rfl, rfl⟩
  go_wp2_with fail
  refine (HS.out _).mono ?_
  rintro e w1 ⟨rfl, hg1⟩
  go_wp2_with fail
  refine (rmake3_c _ _ _ _ _ _).mono ?_
  rintro e w2 ⟨rfl, hg2⟩
  have hG := Lib.hid (gr_trans ((gr_trans (gr_refl (w.alloc (.cells six0.toArray 23)) none) hg1)) hg2)
  have hR := Lib.hid (HR.out.grown hG.out (by simp)); have k0 := hR.out.cell 0; have k1 := hR.out.cell 1; have k2 := hR.out.cell 2; have k3 := hR.out.cell 3; have k4 := hR.out.cell 4; have k5 := hR.out.cell 5; have z := hR.out.free; simp only [six0, List.getElem?_cons_zero, List.getElem?_cons_succ] at k0 k1 k2 k3 k4 k5
  go_wp2_with fail
  exact six_ret rfl rfl rfl (six hR.out rfl _ _ _ _ _ _) ⟨rfl, six_gr (gr_trans (gr_alloc (gr_refl _ _) _) hG.out) (Nat.le_refl _) _ _ _ _ _ _⟩
set_option maxRecDepth 100000 in
set_option maxHeartbeats 4000000 in
theorem two2 (h : Nat) (hh : h < 65536) (hf : F.get h 13 3 = 2) (w : World) :
    Calls Tryz.prog 34 #[.int .u32 h] w fun e w' => e = .returned (.agg (insn 2 (cl (form h 2 2)))) ∧ w.grownBy w' none := by
  have HR := Lib.hid (Row.fresh w 23 six0)
  have H7 := Lib.hid (fun W => rGet_n h 7 5 (by omega) (by decide) (by decide) W)
  have H2 := Lib.hid (fun W => rGet_n h 2 5 (by omega) (by decide) (by decide) W)
  have H12 := Lib.hid (fun W => rGet_n h 12 1 (by omega) (by decide) (by decide) W)
  have H13 := Lib.hid (fun W => rGet_n h 13 3 (by omega) (by decide) (by decide) W)
  have b7 := get_lt h 7 5
  have b2 := get_lt h 2 5
  have b12 := bit_le h 12
  rw [hf] at H13
  clear hf
  have NL := Lib.hid (fun W g hR => rnumber_c h g [3, 2, 12, 6, 5, 4, 0, 0] hh (by decide) (by decide) W hR)
  rw [show form h 2 2 = (if F.get h 7 5 = 0 then (0, bar) else (13, ((F.get h 7 5 : Nat) : Int), 2, 0, ((numV h [3, 2, 12, 6, 5, 4, 0, 0] : Nat) : Int))) from rfl]
  generalize F.get h 7 5 = r at *
  generalize F.get h 2 5 = s at *
  generalize F.get h 12 1 = b at *
  generalize numV h [3, 2, 12, 6, 5, 4, 0, 0] = n at *
  by_cases h0 : r = 0
  · subst h0
    rw [if_pos rfl, cl_no rfl]
    go_enter Tryz.func34, Tryz.ntmps34
    go_wp2_with fail
    refine (H7.out _).mono ?_
    rintro e w0 ⟨rfl, rfl⟩
    go_wp2_with fail
    refine (H2.out _).mono ?_
    rintro e w0 ⟨rfl, rfl⟩
    go_wp2_with fail
    refine (H12.out _).mono ?_
    rintro e w0 ⟨rfl, rfl⟩
    go_wp2_with fail
    refine (H13.out _).mono ?_
    rintro e w0 ⟨rfl, rfl⟩
    go_wp2_with fail
    refine (rnone_c _).mono ?_
    rintro e w1 ⟨rfl, hg1⟩
    have hG := Lib.hid (gr_trans (gr_refl (w.alloc (.cells six0.toArray 23)) none) hg1)
    have hR := Lib.hid (HR.out.grown hG.out (by simp)); have k0 := hR.out.cell 0; have k1 := hR.out.cell 1; have k2 := hR.out.cell 2; have k3 := hR.out.cell 3; have k4 := hR.out.cell 4; have k5 := hR.out.cell 5; have z := hR.out.free; simp only [six0, List.getElem?_cons_zero, List.getElem?_cons_succ] at k0 k1 k2 k3 k4 k5
    go_wp2_with fail
    exact six_ret rfl rfl rfl (six hR.out rfl _ _ _ _ _ _) ⟨rfl, six_gr (gr_trans (gr_alloc (gr_refl _ _) _) hG.out) (Nat.le_refl _) _ _ _ _ _ _⟩
  · rw [if_neg h0, cl_is (show (13 : Int) ≠ 0 by decide)]
    have d0 : ((r : Int) == 0) = false := by simpa using h0
    go_enter Tryz.func34, Tryz.ntmps34
    go_wp2_with fail
    refine (H7.out _).mono ?_
    rintro e w0 ⟨rfl, rfl⟩
    go_wp2_with fail
    refine (H2.out _).mono ?_
    rintro e w0 ⟨rfl, rfl⟩
    go_wp2_with fail
    refine (H12.out _).mono ?_
    rintro e w0 ⟨rfl, rfl⟩
    go_wp2_with fail
    refine (H13.out _).mono ?_
    rintro e w0 ⟨rfl, rfl⟩
    go_wp2_with fail
    refine (NL.out _ _ (by have hf := Row.fresh (w.alloc (.cells six0.toArray 23)) 3 (zv [3, 2, 12, 6, 5, 4, 0, 0]); rw [World.size_alloc] at hf; exact hf)).mono ?_
    rintro e w0 ⟨rfl, rfl⟩
    go_wp2_with fail
    refine (rmake3_c _ _ _ _ _ _).mono ?_
    rintro e w1 ⟨rfl, hg1⟩
    have hG := Lib.hid (gr_trans ((gr_alloc (gr_refl (w.alloc (.cells six0.toArray 23)) none) _)) hg1)
    have hR := Lib.hid (HR.out.grown hG.out (by simp)); have k0 := hR.out.cell 0; have k1 := hR.out.cell 1; have k2 := hR.out.cell 2; have k3 := hR.out.cell 3; have k4 := hR.out.cell 4; have k5 := hR.out.cell 5; have z := hR.out.free; simp only [six0, List.getElem?_cons_zero, List.getElem?_cons_succ] at k0 k1 k2 k3 k4 k5
    go_wp2_with fail
    exact six_ret rfl rfl rfl (six hR.out rfl _ _ _ _ _ _) ⟨rfl, six_gr (gr_trans (gr_alloc (gr_refl _ _) _) hG.out) (Nat.le_refl _) _ _ _ _ _ _⟩
set_option maxRecDepth 100000 in
set_option maxHeartbeats 4000000 in
theorem two3 (h : Nat) (hh : h < 65536) (hf : F.get h 13 3 = 3) (w : World) :
    Calls Tryz.prog 34 #[.int .u32 h] w fun e w' => e = .returned (.agg (insn 2 (cl (form h 2 3)))) ∧ w.grownBy w' none := by
  have HR := Lib.hid (Row.fresh w 23 six0)
  have H7 := Lib.hid (fun W => rGet_n h 7 5 (by omega) (by decide) (by decide) W)
  have H2 := Lib.hid (fun W => rGet_n h 2 5 (by omega) (by decide) (by decide) W)
  have H12 := Lib.hid (fun W => rGet_n h 12 1 (by omega) (by decide) (by decide) W)
  have H13 := Lib.hid (fun W => rGet_n h 13 3 (by omega) (by decide) (by decide) W)
  have b7 := get_lt h 7 5
  have b2 := get_lt h 2 5
  have b12 := bit_le h 12
  rw [hf] at H13
  clear hf
  have NL := Lib.hid (fun W g hR => rnumber_c h g [4, 3, 2, 12, 6, 5, 0, 0, 0] hh (by decide) (by decide) W hR)
  rw [show form h 2 3 = (if F.get h 7 5 = 0 then (0, bar) else (14, ((F.get h 7 5 : Nat) : Int), 2, 0, ((numV h [4, 3, 2, 12, 6, 5, 0, 0, 0] : Nat) : Int))) from rfl]
  generalize F.get h 7 5 = r at *
  generalize F.get h 2 5 = s at *
  generalize F.get h 12 1 = b at *
  generalize numV h [4, 3, 2, 12, 6, 5, 0, 0, 0] = n at *
  by_cases h0 : r = 0
  · subst h0
    rw [if_pos rfl, cl_no rfl]
    go_enter Tryz.func34, Tryz.ntmps34
    go_wp2_with fail
    refine (H7.out _).mono ?_
    rintro e w0 ⟨rfl, rfl⟩
    go_wp2_with fail
    refine (H2.out _).mono ?_
    rintro e w0 ⟨rfl, rfl⟩
    go_wp2_with fail
    refine (H12.out _).mono ?_
    rintro e w0 ⟨rfl, rfl⟩
    go_wp2_with fail
    refine (H13.out _).mono ?_
    rintro e w0 ⟨rfl, rfl⟩
    go_wp2_with fail
    refine (rnone_c _).mono ?_
    rintro e w1 ⟨rfl, hg1⟩
    have hG := Lib.hid (gr_trans (gr_refl (w.alloc (.cells six0.toArray 23)) none) hg1)
    have hR := Lib.hid (HR.out.grown hG.out (by simp)); have k0 := hR.out.cell 0; have k1 := hR.out.cell 1; have k2 := hR.out.cell 2; have k3 := hR.out.cell 3; have k4 := hR.out.cell 4; have k5 := hR.out.cell 5; have z := hR.out.free; simp only [six0, List.getElem?_cons_zero, List.getElem?_cons_succ] at k0 k1 k2 k3 k4 k5
    go_wp2_with fail
    exact six_ret rfl rfl rfl (six hR.out rfl _ _ _ _ _ _) ⟨rfl, six_gr (gr_trans (gr_alloc (gr_refl _ _) _) hG.out) (Nat.le_refl _) _ _ _ _ _ _⟩
  · rw [if_neg h0, cl_is (show (14 : Int) ≠ 0 by decide)]
    have d0 : ((r : Int) == 0) = false := by simpa using h0
    go_enter Tryz.func34, Tryz.ntmps34
    go_wp2_with fail
    refine (H7.out _).mono ?_
    rintro e w0 ⟨rfl, rfl⟩
    go_wp2_with fail
    refine (H2.out _).mono ?_
    rintro e w0 ⟨rfl, rfl⟩
    go_wp2_with fail
    refine (H12.out _).mono ?_
    rintro e w0 ⟨rfl, rfl⟩
    go_wp2_with fail
    refine (H13.out _).mono ?_
    rintro e w0 ⟨rfl, rfl⟩
    go_wp2_with fail
    refine (NL.out _ _ (by have hf := Row.fresh (w.alloc (.cells six0.toArray 23)) 3 (zv [4, 3, 2, 12, 6, 5, 0, 0, 0]); rw [World.size_alloc] at hf; exact hf)).mono ?_
    rintro e w0 ⟨rfl, rfl⟩
    go_wp2_with fail
    refine (rmake3_c _ _ _ _ _ _).mono ?_
    rintro e w1 ⟨rfl, hg1⟩
    have hG := Lib.hid (gr_trans ((gr_alloc (gr_refl (w.alloc (.cells six0.toArray 23)) none) _)) hg1)
    have hR := Lib.hid (HR.out.grown hG.out (by simp)); have k0 := hR.out.cell 0; have k1 := hR.out.cell 1; have k2 := hR.out.cell 2; have k3 := hR.out.cell 3; have k4 := hR.out.cell 4; have k5 := hR.out.cell 5; have z := hR.out.free; simp only [six0, List.getElem?_cons_zero, List.getElem?_cons_succ] at k0 k1 k2 k3 k4 k5
    go_wp2_with fail
    exact six_ret rfl rfl rfl (six hR.out rfl _ _ _ _ _ _) ⟨rfl, six_gr (gr_trans (gr_alloc (gr_refl _ _) _) hG.out) (Nat.le_refl _) _ _ _ _ _ _⟩
set_option maxRecDepth 100000 in
set_option maxHeartbeats 4000000 in
theorem two4 (h : Nat) (hh : h < 65536) (hf : F.get h 13 3 = 4) (w : World) :
    Calls Tryz.prog 34 #[.int .u32 h] w fun e w' => e = .returned (.agg (insn 2 (cl (form h 2 4)))) ∧ w.grownBy w' none := by
  have HR := Lib.hid (Row.fresh w 23 six0)
  have H7 := Lib.hid (fun W => rGet_n h 7 5 (by omega) (by decide) (by decide) W)
  have H2 := Lib.hid (fun W => rGet_n h 2 5 (by omega) (by decide) (by decide) W)
  have H12 := Lib.hid (fun W => rGet_n h 12 1 (by omega) (by decide) (by decide) W)
  have H13 := Lib.hid (fun W => rGet_n h 13 3 (by omega) (by decide) (by decide) W)
  have b7 := get_lt h 7 5
  have b2 := get_lt h 2 5
  have b12 := bit_le h 12
  rw [hf] at H13
  clear hf
  rw [show form h 2 4 = (if F.get h 2 5 ≠ 0 then (31, ((F.get h 7 5 : Nat) : Int), ((F.get h 7 5 * F.get h 12 1 : Nat) : Int), ((F.get h 2 5 : Nat) : Int), 0) else if F.get h 7 5 ≠ 0 then (4, ((F.get h 12 1 : Nat) : Int), ((F.get h 7 5 : Nat) : Int), 0, 0) else if F.get h 12 1 = 1 then (66, bar) else (0, bar)) from rfl]
  generalize F.get h 7 5 = r at *
  generalize F.get h 2 5 = s at *
  generalize F.get h 12 1 = b at *
  by_cases s0 : s = 0
  · subst s0
    rw [if_neg (by simp)]
    by_cases r0 : r = 0
    · subst r0
      rw [if_neg (by simp)]
      rcases (show b = 0 ∨ b = 1 by omega) with rfl | rfl
      · rw [if_neg (by decide), cl_no rfl]
        go_enter Tryz.func34, Tryz.ntmps34
        go_wp2_with fail
        refine (H7.out _).mono ?_
        rintro e w0 ⟨rfl, rfl⟩
        go_wp2_with fail
        refine (H2.out _).mono ?_
        rintro e w0 ⟨rfl, rfl⟩
        go_wp2_with fail
        refine (H12.out _).mono ?_
        rintro e w0 ⟨rfl, rfl⟩
        go_wp2_with fail
        refine (H13.out _).mono ?_
        rintro e w0 ⟨rfl, rfl⟩
        go_wp2_with fail
        refine (rnone_c _).mono ?_
        rintro e w1 ⟨rfl, hg1⟩
        have hG := Lib.hid (gr_trans (gr_refl (w.alloc (.cells six0.toArray 23)) none) hg1)
        have hR := Lib.hid (HR.out.grown hG.out (by simp)); have k0 := hR.out.cell 0; have k1 := hR.out.cell 1; have k2 := hR.out.cell 2; have k3 := hR.out.cell 3; have k4 := hR.out.cell 4; have k5 := hR.out.cell 5; have z := hR.out.free; simp only [six0, List.getElem?_cons_zero, List.getElem?_cons_succ] at k0 k1 k2 k3 k4 k5
        go_wp2_with fail
        exact six_ret rfl rfl rfl (six hR.out rfl _ _ _ _ _ _) ⟨rfl, six_gr (gr_trans (gr_alloc (gr_refl _ _) _) hG.out) (Nat.le_refl _) _ _ _ _ _ _⟩
      · rw [if_pos rfl, cl_is (show (66 : Int) ≠ 0 by decide)]
        go_enter Tryz.func34, Tryz.ntmps34
        go_wp2_with fail
        refine (H7.out _).mono ?_
        rintro e w0 ⟨rfl, rfl⟩
        go_wp2_with fail
        refine (H2.out _).mono ?_
        rintro e w0 ⟨rfl, rfl⟩
        go_wp2_with fail
        refine (H12.out _).mono ?_
        rintro e w0 ⟨rfl, rfl⟩
        go_wp2_with fail
        refine (H13.out _).mono ?_
        rintro e w0 ⟨rfl, rfl⟩
        go_wp2_with fail
        refine (rmake3_c _ _ _ _ _ _).mono ?_
        rintro e w1 ⟨rfl, hg1⟩
        have hG := Lib.hid (gr_trans (gr_refl (w.alloc (.cells six0.toArray 23)) none) hg1)
        have hR := Lib.hid (HR.out.grown hG.out (by simp)); have k0 := hR.out.cell 0; have k1 := hR.out.cell 1; have k2 := hR.out.cell 2; have k3 := hR.out.cell 3; have k4 := hR.out.cell 4; have k5 := hR.out.cell 5; have z := hR.out.free; simp only [six0, List.getElem?_cons_zero, List.getElem?_cons_succ] at k0 k1 k2 k3 k4 k5
        go_wp2_with fail
        exact six_ret rfl rfl rfl (six hR.out rfl _ _ _ _ _ _) ⟨rfl, six_gr (gr_trans (gr_alloc (gr_refl _ _) _) hG.out) (Nat.le_refl _) _ _ _ _ _ _⟩
    · rw [if_pos r0, cl_is (show (4 : Int) ≠ 0 by decide)]
      have d0 : ((r : Int) == 0) = false := by simpa using r0
      rcases (show b = 0 ∨ b = 1 by omega) with rfl | rfl
      · go_enter Tryz.func34, Tryz.ntmps34
        go_wp2_with fail
        refine (H7.out _).mono ?_
        rintro e w0 ⟨rfl, rfl⟩
        go_wp2_with fail
        refine (H2.out _).mono ?_
        rintro e w0 ⟨rfl, rfl⟩
        go_wp2_with fail
        refine (H12.out _).mono ?_
        rintro e w0 ⟨rfl, rfl⟩
        go_wp2_with fail
        refine (H13.out _).mono ?_
        rintro e w0 ⟨rfl, rfl⟩
        go_wp2_with fail
        refine (rmake3_c _ _ _ _ _ _).mono ?_
        rintro e w1 ⟨rfl, hg1⟩
        have hG := Lib.hid (gr_trans (gr_refl (w.alloc (.cells six0.toArray 23)) none) hg1)
        have hR := Lib.hid (HR.out.grown hG.out (by simp)); have k0 := hR.out.cell 0; have k1 := hR.out.cell 1; have k2 := hR.out.cell 2; have k3 := hR.out.cell 3; have k4 := hR.out.cell 4; have k5 := hR.out.cell 5; have z := hR.out.free; simp only [six0, List.getElem?_cons_zero, List.getElem?_cons_succ] at k0 k1 k2 k3 k4 k5
        go_wp2_with fail
        exact six_ret rfl rfl rfl (six hR.out rfl _ _ _ _ _ _) ⟨rfl, six_gr (gr_trans (gr_alloc (gr_refl _ _) _) hG.out) (Nat.le_refl _) _ _ _ _ _ _⟩
      · go_enter Tryz.func34, Tryz.ntmps34
        go_wp2_with fail
        refine (H7.out _).mono ?_
        rintro e w0 ⟨rfl, rfl⟩
        go_wp2_with fail
        refine (H2.out _).mono ?_
        rintro e w0 ⟨rfl, rfl⟩
        go_wp2_with fail
        refine (H12.out _).mono ?_
        rintro e w0 ⟨rfl, rfl⟩
        go_wp2_with fail
        refine (H13.out _).mono ?_
        rintro e w0 ⟨rfl, rfl⟩
        go_wp2_with fail
        refine (rmake3_c _ _ _ _ _ _).mono ?_
        rintro e w1 ⟨rfl, hg1⟩
        have hG := Lib.hid (gr_trans (gr_refl (w.alloc (.cells six0.toArray 23)) none) hg1)
        have hR := Lib.hid (HR.out.grown hG.out (by simp)); have k0 := hR.out.cell 0; have k1 := hR.out.cell 1; have k2 := hR.out.cell 2; have k3 := hR.out.cell 3; have k4 := hR.out.cell 4; have k5 := hR.out.cell 5; have z := hR.out.free; simp only [six0, List.getElem?_cons_zero, List.getElem?_cons_succ] at k0 k1 k2 k3 k4 k5
        go_wp2_with fail
        exact six_ret rfl rfl rfl (six hR.out rfl _ _ _ _ _ _) ⟨rfl, six_gr (gr_trans (gr_alloc (gr_refl _ _) _) hG.out) (Nat.le_refl _) _ _ _ _ _ _⟩
  · rw [if_pos s0, cl_is (show (31 : Int) ≠ 0 by decide)]
    have d0 : ((s : Int) == 0) = false := by simpa using s0
    rcases (show b = 0 ∨ b = 1 by omega) with rfl | rfl
    · rw [Nat.mul_zero]
      go_enter Tryz.func34, Tryz.ntmps34
      go_wp2_with fail
      refine (H7.out _).mono ?_
      rintro e w0 ⟨rfl, rfl⟩
      go_wp2_with fail
      refine (H2.out _).mono ?_
      rintro e w0 ⟨rfl, rfl⟩
      go_wp2_with fail
      refine (H12.out _).mono ?_
      rintro e w0 ⟨rfl, rfl⟩
      go_wp2_with fail
      refine (H13.out _).mono ?_
      rintro e w0 ⟨rfl, rfl⟩
      go_wp2_with fail
      refine (rmake3_c _ _ _ _ _ _).mono ?_
      rintro e w1 ⟨rfl, hg1⟩
      have hG := Lib.hid (gr_trans (gr_refl (w.alloc (.cells six0.toArray 23)) none) hg1)
      have hR := Lib.hid (HR.out.grown hG.out (by simp)); have k0 := hR.out.cell 0; have k1 := hR.out.cell 1; have k2 := hR.out.cell 2; have k3 := hR.out.cell 3; have k4 := hR.out.cell 4; have k5 := hR.out.cell 5; have z := hR.out.free; simp only [six0, List.getElem?_cons_zero, List.getElem?_cons_succ] at k0 k1 k2 k3 k4 k5
      go_wp2_with fail
      exact six_ret rfl rfl rfl (six hR.out rfl _ _ _ _ _ _) ⟨rfl, six_gr (gr_trans (gr_alloc (gr_refl _ _) _) hG.out) (Nat.le_refl _) _ _ _ _ _ _⟩
    · rw [Nat.mul_one]
      go_enter Tryz.func34, Tryz.ntmps34
      go_wp2_with fail
      refine (H7.out _).mono ?_
      rintro e w0 ⟨rfl, rfl⟩
      go_wp2_with fail
      refine (H2.out _).mono ?_
      rintro e w0 ⟨rfl, rfl⟩
      go_wp2_with fail
      refine (H12.out _).mono ?_
      rintro e w0 ⟨rfl, rfl⟩
      go_wp2_with fail
      refine (H13.out _).mono ?_
      rintro e w0 ⟨rfl, rfl⟩
      go_wp2_with fail
      refine (rmake3_c _ _ _ _ _ _).mono ?_
      rintro e w1 ⟨rfl, hg1⟩
      have hG := Lib.hid (gr_trans (gr_refl (w.alloc (.cells six0.toArray 23)) none) hg1)
      have hR := Lib.hid (HR.out.grown hG.out (by simp)); have k0 := hR.out.cell 0; have k1 := hR.out.cell 1; have k2 := hR.out.cell 2; have k3 := hR.out.cell 3; have k4 := hR.out.cell 4; have k5 := hR.out.cell 5; have z := hR.out.free; simp only [six0, List.getElem?_cons_zero, List.getElem?_cons_succ] at k0 k1 k2 k3 k4 k5
      go_wp2_with fail
      exact six_ret rfl rfl rfl (six hR.out rfl _ _ _ _ _ _) ⟨rfl, six_gr (gr_trans (gr_alloc (gr_refl _ _) _) hG.out) (Nat.le_refl _) _ _ _ _ _ _⟩
set_option maxRecDepth 100000 in
set_option maxHeartbeats 4000000 in
theorem two6 (h : Nat) (hh : h < 65536) (hf : F.get h 13 3 = 6) (w : World) :
    Calls Tryz.prog 34 #[.int .u32 h] w fun e w' => e = .returned (.agg (insn 2 (cl (form h 2 6)))) ∧ w.grownBy w' none := by
  have HR := Lib.hid (Row.fresh w 23 six0)
  have H7 := Lib.hid (fun W => rGet_n h 7 5 (by omega) (by decide) (by decide) W)
  have H2 := Lib.hid (fun W => rGet_n h 2 5 (by omega) (by decide) (by decide) W)
  have H12 := Lib.hid (fun W => rGet_n h 12 1 (by omega) (by decide) (by decide) W)
  have H13 := Lib.hid (fun W => rGet_n h 13 3 (by omega) (by decide) (by decide) W)
  have b7 := get_lt h 7 5
  have b2 := get_lt h 2 5
  have b12 := bit_le h 12
  rw [hf] at H13
  clear hf
  have NL := Lib.hid (fun W g hR => rnumber_c h g [8, 7, 12, 11, 10, 9, 0, 0] hh (by decide) (by decide) W hR)
  rw [show cl (form h 2 6) = (20, 0, 2, ((F.get h 2 5 : Nat) : Int), ((numV h [8, 7, 12, 11, 10, 9, 0, 0] : Nat) : Int)) from rfl]
  generalize F.get h 7 5 = r at *
  generalize F.get h 2 5 = s at *
  generalize F.get h 12 1 = b at *
  generalize numV h [8, 7, 12, 11, 10, 9, 0, 0] = n at *
  go_enter Tryz.func34, Tryz.ntmps34
  go_wp2_with fail
  refine (H7.out _).mono ?_
  rintro e w0 ⟨rfl, rfl⟩
  go_wp2_with fail
  refine (H2.out _).mono ?_
  rintro e w0 ⟨rfl, rfl⟩
  go_wp2_with fail
  refine (H12.out _).mono ?_
  rintro e w0 ⟨rfl, rfl⟩
  go_wp2_with fail
  refine (H13.out _).mono ?_
  rintro e w0 ⟨rfl, rfl⟩
  go_wp2_with fail
  refine (NL.out _ _ (by have hf := Row.fresh (w.alloc (.cells six0.toArray 23)) 3 (zv [8, 7, 12, 11, 10, 9, 0, 0]); rw [World.size_alloc] at hf; exact hf)).mono ?_
  rintro e w0 ⟨rfl, rfl⟩
  go_wp2_with fail
  refine (rmake3_c _ _ _ _ _ _).mono ?_
  rintro e w1 ⟨rfl, hg1⟩
  have hG := Lib.hid (gr_trans ((gr_alloc (gr_refl (w.alloc (.cells six0.toArray 23)) none) _)) hg1)
  have hR := Lib.hid (HR.out.grown hG.out (by simp)); have k0 := hR.out.cell 0; have k1 := hR.out.cell 1; have k2 := hR.out.cell 2; have k3 := hR.out.cell 3; have k4 := hR.out.cell 4; have k5 := hR.out.cell 5; have z := hR.out.free; simp only [six0, List.getElem?_cons_zero, List.getElem?_cons_succ] at k0 k1 k2 k3 k4 k5
  go_wp2_with fail
  exact six_ret rfl rfl rfl (six hR.out rfl _ _ _ _ _ _) ⟨rfl, six_gr (gr_trans (gr_alloc (gr_refl _ _) _) hG.out) (Nat.le_refl _) _ _ _ _ _ _⟩
set_option maxRecDepth 100000 in
set_option maxHeartbeats 4000000 in
theorem two7 (h : Nat) (hh : h < 65536) (hf : F.get h 13 3 = 7) (w : World) :
    Calls Tryz.prog 34 #[.int .u32 h] w fun e w' => e = .returned (.agg (insn 2 (cl (form h 2 7)))) ∧ w.grownBy w' none := by
  have HR := Lib.hid (Row.fresh w 23 six0)
  have H7 := Lib.hid (fun W => rGet_n h 7 5 (by omega) (by decide) (by decide) W)
  have H2 := Lib.hid (fun W => rGet_n h 2 5 (by omega) (by decide) (by decide) W)
  have H12 := Lib.hid (fun W => rGet_n h 12 1 (by omega) (by decide) (by decide) W)
  have H13 := Lib.hid (fun W => rGet_n h 13 3 (by omega) (by decide) (by decide) W)
  have b7 := get_lt h 7 5
  have b2 := get_lt h 2 5
  have b12 := bit_le h 12
  rw [hf] at H13
  clear hf
  have NL := Lib.hid (fun W g hR => rnumber_c h g [9, 8, 7, 12, 11, 10, 0, 0, 0] hh (by decide) (by decide) W hR)
  rw [show cl (form h 2 7) = (21, 0, 2, ((F.get h 2 5 : Nat) : Int), ((numV h [9, 8, 7, 12, 11, 10, 0, 0, 0] : Nat) : Int)) from rfl]
  generalize F.get h 7 5 = r at *
  generalize F.get h 2 5 = s at *
  generalize F.get h 12 1 = b at *
  generalize numV h [9, 8, 7, 12, 11, 10, 0, 0, 0] = n at *
  go_enter Tryz.func34, Tryz.ntmps34
  go_wp2_with fail
  refine (H7.out _).mono ?_
  rintro e w0 ⟨rfl, rfl⟩
  go_wp2_with fail
  refine (H2.out _).mono ?_
  rintro e w0 ⟨rfl, rfl⟩
  go_wp2_with fail
  refine (H12.out _).mono ?_
  rintro e w0 ⟨rfl, rfl⟩
  go_wp2_with fail
  refine (H13.out _).mono ?_
  rintro e w0 ⟨rfl, rfl⟩
  go_wp2_with fail
  refine (NL.out _ _ (by have hf := Row.fresh (w.alloc (.cells six0.toArray 23)) 3 (zv [9, 8, 7, 12, 11, 10, 0, 0, 0]); rw [World.size_alloc] at hf; exact hf)).mono ?_
  rintro e w0 ⟨rfl, rfl⟩
  go_wp2_with fail
  refine (rmake3_c _ _ _ _ _ _).mono ?_
  rintro e w1 ⟨rfl, hg1⟩
  have hG := Lib.hid (gr_trans ((gr_alloc (gr_refl (w.alloc (.cells six0.toArray 23)) none) _)) hg1)
  have hR := Lib.hid (HR.out.grown hG.out (by simp)); have k0 := hR.out.cell 0; have k1 := hR.out.cell 1; have k2 := hR.out.cell 2; have k3 := hR.out.cell 3; have k4 := hR.out.cell 4; have k5 := hR.out.cell 5; have z := hR.out.free; simp only [six0, List.getElem?_cons_zero, List.getElem?_cons_succ] at k0 k1 k2 k3 k4 k5
  go_wp2_with fail
  exact six_ret rfl rfl rfl (six hR.out rfl _ _ _ _ _ _) ⟨rfl, six_gr (gr_trans (gr_alloc (gr_refl _ _) _) hG.out) (Nat.le_refl _) _ _ _ _ _ _⟩
set_option maxRecDepth 100000 in
set_option maxHeartbeats 4000000 in
theorem twoN (h : Nat) (hh : h < 65536) (hf : F.get h 13 3 = 1 ∨ F.get h 13 3 = 5) (w : World) :
    Calls Tryz.prog 34 #[.int .u32 h] w fun e w' => e = .returned (.agg (insn 2 (cl (form h 2 (F.get h 13 3))))) ∧ w.grownBy w' none := by
  have HR := Lib.hid (Row.fresh w 23 six0)
  have H7 := Lib.hid (fun W => rGet_n h 7 5 (by omega) (by decide) (by decide) W)
  have H2 := Lib.hid (fun W => rGet_n h 2 5 (by omega) (by decide) (by decide) W)
  have H12 := Lib.hid (fun W => rGet_n h 12 1 (by omega) (by decide) (by decide) W)
  have H13 := Lib.hid (fun W => rGet_n h 13 3 (by omega) (by decide) (by decide) W)
  have b7 := get_lt h 7 5
  have b2 := get_lt h 2 5
  have b12 := bit_le h 12
  have e : form h 2 (F.get h 13 3) = (0, bar) := by unfold form; rw [if_neg (by decide), if_neg (by decide), if_pos rfl, if_neg (by omega), if_neg (by omega), if_neg (by omega), if_neg (by omega), if_neg (by omega), if_neg (by omega)]; rfl
  rw [e, cl_no rfl]
  clear e
  have b13 := get_lt h 13 3
  generalize F.get h 7 5 = r at *
  generalize F.get h 2 5 = s at *
  generalize F.get h 12 1 = b at *
  generalize F.get h 13 3 = f at *
  have d0 : ((f : Int) == 0) = false := by simp; omega
  have d2 : ((f : Int) == 2) = false := by simp; omega
  have d3 : ((f : Int) == 3) = false := by simp; omega
  have d4 : ((f : Int) == 4) = false := by simp; omega
  have d6 : ((f : Int) == 6) = false := by simp; omega
  have d7 : ((f : Int) == 7) = false := by simp; omega
  go_enter Tryz.func34, Tryz.ntmps34
  go_wp2_with fail
  refine (H7.out _).mono ?_
  rintro e w0 ⟨rfl, rfl⟩
  go_wp2_with fail
  refine (H2.out _).mono ?_
  rintro e w0 ⟨rfl, rfl⟩
  go_wp2_with fail
  refine (H12.out _).mono ?_
  rintro e w0 ⟨rfl, rfl⟩
  go_wp2_with fail
  refine (H13.out _).mono ?_
  rintro e w0 ⟨rfl, rfl⟩
  go_wp2_with fail
  refine (rnone_c _).mono ?_
  rintro e w1 ⟨rfl, hg1⟩
  have hG := Lib.hid (gr_trans (gr_refl (w.alloc (.cells six0.toArray 23)) none) hg1)
  have hR := Lib.hid (HR.out.grown hG.out (by simp)); have k0 := hR.out.cell 0; have k1 := hR.out.cell 1; have k2 := hR.out.cell 2; have k3 := hR.out.cell 3; have k4 := hR.out.cell 4; have k5 := hR.out.cell 5; have z := hR.out.free; simp only [six0, List.getElem?_cons_zero, List.getElem?_cons_succ] at k0 k1 k2 k3 k4 k5
  go_wp2_with fail
  exact six_ret rfl rfl rfl (six hR.out rfl _ _ _ _ _ _) ⟨rfl, six_gr (gr_trans (gr_alloc (gr_refl _ _) _) hG.out) (Nat.le_refl _) _ _ _ _ _ _⟩
end Go.Proofs.YtpbeamnogfjagaaGreatDoor.refHalf
