/-
  What each form of package comp answers: contracts over the program's translation.
  Conditions: the arguments are numbers of their kinds.
-/
import Derived.Test.YthdjbmajdbfebaaGreatCompC
namespace Go.Proofs.YthdjbmajdbfebaaGreat
open Go Go.RowKit F W M D
set_option linter.unusedVariables false

theorem cnone_c (h : Nat) (hh : h < 65536) (w : World) :
    Calls Tryz.prog 18 #[.int .u16 h] w fun e w' => e = .returned (.agg (insn 0 vNone)) ∧ w.grownBy w' none := by
  go_enter Tryz.func18, Tryz.ntmps18
  go_wp2_with fail
  exact six_ret rfl rfl rfl (Row.fresh w 26 six0) ⟨rfl, gr_alloc (gr_refl _ _) _⟩
set_option maxHeartbeats 1000000 in
theorem cf_loadWord (h : Nat) (hh : h < 65536) (w : World) :
    Calls Tryz.prog 19 #[.int .u16 h] w fun e w' => e = .returned (.agg (insn 0 (vLoadWord h))) ∧ w.grownBy w' none := by
  have HR := Lib.hid (Row.fresh w 26 six0)
  go_enter Tryz.func19, Tryz.ntmps19
  go_wp2_with fail
  refine (shortS_c h hh _).mono ?_
  rintro e w0 ⟨rfl, rfl⟩
  go_wp2_with fail
  refine (shortR_c h hh _).mono ?_
  rintro e w1 ⟨rfl, rfl⟩
  go_wp2_with fail
  refine (wordAt_c h hh _).mono ?_
  rintro e w2 ⟨rfl, hg2⟩
  have hG := Lib.hid hg2
  have hR := Lib.hid (HR.out.grown hG.out (by simp)); have k0 := hR.out.cell 0; have k1 := hR.out.cell 1; have k2 := hR.out.cell 2; have k3 := hR.out.cell 3; have k4 := hR.out.cell 4; have k5 := hR.out.cell 5; have z := hR.out.free; simp only [six0, List.getElem?_cons_zero, List.getElem?_cons_succ] at k0 k1 k2 k3 k4 k5
  go_wp2_with fail
  exact six_ret rfl rfl rfl (six hR.out rfl _ _ _ _ _ _) ⟨rfl, six_gr (gr_trans (gr_alloc (gr_refl _ _) _) hG.out) (Nat.le_refl _) _ _ _ _ _ _⟩
set_option maxHeartbeats 1000000 in
theorem cf_loadDouble (h : Nat) (hh : h < 65536) (w : World) :
    Calls Tryz.prog 20 #[.int .u16 h] w fun e w' => e = .returned (.agg (insn 0 (vLoadDouble h))) ∧ w.grownBy w' none := by
  have HR := Lib.hid (Row.fresh w 26 six0)
  go_enter Tryz.func20, Tryz.ntmps20
  go_wp2_with fail
  refine (shortS_c h hh _).mono ?_
  rintro e w0 ⟨rfl, rfl⟩
  go_wp2_with fail
  refine (shortR_c h hh _).mono ?_
  rintro e w1 ⟨rfl, rfl⟩
  go_wp2_with fail
  refine (doubleAt_c h hh _).mono ?_
  rintro e w2 ⟨rfl, hg2⟩
  have hG := Lib.hid hg2
  have hR := Lib.hid (HR.out.grown hG.out (by simp)); have k0 := hR.out.cell 0; have k1 := hR.out.cell 1; have k2 := hR.out.cell 2; have k3 := hR.out.cell 3; have k4 := hR.out.cell 4; have k5 := hR.out.cell 5; have z := hR.out.free; simp only [six0, List.getElem?_cons_zero, List.getElem?_cons_succ] at k0 k1 k2 k3 k4 k5
  go_wp2_with fail
  exact six_ret rfl rfl rfl (six hR.out rfl _ _ _ _ _ _) ⟨rfl, six_gr (gr_trans (gr_alloc (gr_refl _ _) _) hG.out) (Nat.le_refl _) _ _ _ _ _ _⟩
set_option maxHeartbeats 1000000 in
theorem cf_storeWord (h : Nat) (hh : h < 65536) (w : World) :
    Calls Tryz.prog 21 #[.int .u16 h] w fun e w' => e = .returned (.agg (insn 0 (vStoreWord h))) ∧ w.grownBy w' none := by
  have HR := Lib.hid (Row.fresh w 26 six0)
  go_enter Tryz.func21, Tryz.ntmps21
  go_wp2_with fail
  refine (shortR_c h hh _).mono ?_
  rintro e w0 ⟨rfl, rfl⟩
  go_wp2_with fail
  refine (shortS_c h hh _).mono ?_
  rintro e w1 ⟨rfl, rfl⟩
  go_wp2_with fail
  refine (wordAt_c h hh _).mono ?_
  rintro e w2 ⟨rfl, hg2⟩
  have hG := Lib.hid hg2
  have hR := Lib.hid (HR.out.grown hG.out (by simp)); have k0 := hR.out.cell 0; have k1 := hR.out.cell 1; have k2 := hR.out.cell 2; have k3 := hR.out.cell 3; have k4 := hR.out.cell 4; have k5 := hR.out.cell 5; have z := hR.out.free; simp only [six0, List.getElem?_cons_zero, List.getElem?_cons_succ] at k0 k1 k2 k3 k4 k5
  go_wp2_with fail
  exact six_ret rfl rfl rfl (six hR.out rfl _ _ _ _ _ _) ⟨rfl, six_gr (gr_trans (gr_alloc (gr_refl _ _) _) hG.out) (Nat.le_refl _) _ _ _ _ _ _⟩
set_option maxHeartbeats 1000000 in
theorem cf_storeDouble (h : Nat) (hh : h < 65536) (w : World) :
    Calls Tryz.prog 22 #[.int .u16 h] w fun e w' => e = .returned (.agg (insn 0 (vStoreDouble h))) ∧ w.grownBy w' none := by
  have HR := Lib.hid (Row.fresh w 26 six0)
  go_enter Tryz.func22, Tryz.ntmps22
  go_wp2_with fail
  refine (shortR_c h hh _).mono ?_
  rintro e w0 ⟨rfl, rfl⟩
  go_wp2_with fail
  refine (shortS_c h hh _).mono ?_
  rintro e w1 ⟨rfl, rfl⟩
  go_wp2_with fail
  refine (doubleAt_c h hh _).mono ?_
  rintro e w2 ⟨rfl, hg2⟩
  have hG := Lib.hid hg2
  have hR := Lib.hid (HR.out.grown hG.out (by simp)); have k0 := hR.out.cell 0; have k1 := hR.out.cell 1; have k2 := hR.out.cell 2; have k3 := hR.out.cell 3; have k4 := hR.out.cell 4; have k5 := hR.out.cell 5; have z := hR.out.free; simp only [six0, List.getElem?_cons_zero, List.getElem?_cons_succ] at k0 k1 k2 k3 k4 k5
  go_wp2_with fail
  exact six_ret rfl rfl rfl (six hR.out rfl _ _ _ _ _ _) ⟨rfl, six_gr (gr_trans (gr_alloc (gr_refl _ _) _) hG.out) (Nat.le_refl _) _ _ _ _ _ _⟩
set_option maxHeartbeats 1000000 in
theorem cf_addSmall (h : Nat) (hh : h < 65536) (w : World) :
    Calls Tryz.prog 23 #[.int .u16 h] w fun e w' => e = .returned (.agg (insn 0 (vAddSmall h))) ∧ w.grownBy w' none := by
  have HR := Lib.hid (Row.fresh w 26 six0)
  go_enter Tryz.func23, Tryz.ntmps23
  go_wp2_with fail
  refine (regR_c h hh _).mono ?_
  rintro e w0 ⟨rfl, rfl⟩
  go_wp2_with fail
  refine (regR_c h hh _).mono ?_
  rintro e w1 ⟨rfl, rfl⟩
  go_wp2_with fail
  refine (small_c h hh _).mono ?_
  rintro e w2 ⟨rfl, hg2⟩
  have hG := Lib.hid hg2
  have hR := Lib.hid (HR.out.grown hG.out (by simp)); have k0 := hR.out.cell 0; have k1 := hR.out.cell 1; have k2 := hR.out.cell 2; have k3 := hR.out.cell 3; have k4 := hR.out.cell 4; have k5 := hR.out.cell 5; have z := hR.out.free; simp only [six0, List.getElem?_cons_zero, List.getElem?_cons_succ] at k0 k1 k2 k3 k4 k5
  go_wp2_with fail
  exact six_ret rfl rfl rfl (six hR.out rfl _ _ _ _ _ _) ⟨rfl, six_gr (gr_trans (gr_alloc (gr_refl _ _) _) hG.out) (Nat.le_refl _) _ _ _ _ _ _⟩
set_option maxHeartbeats 1000000 in
theorem cf_setSmall (h : Nat) (hh : h < 65536) (w : World) :
    Calls Tryz.prog 25 #[.int .u16 h] w fun e w' => e = .returned (.agg (insn 0 (vSetSmall h))) ∧ w.grownBy w' none := by
  have HR := Lib.hid (Row.fresh w 26 six0)
  go_enter Tryz.func25, Tryz.ntmps25
  go_wp2_with fail
  refine (regR_c h hh _).mono ?_
  rintro e w0 ⟨rfl, rfl⟩
  go_wp2_with fail
  refine (small_c h hh _).mono ?_
  rintro e w1 ⟨rfl, hg1⟩
  have hG := Lib.hid hg1
  have hR := Lib.hid (HR.out.grown hG.out (by simp)); have k0 := hR.out.cell 0; have k1 := hR.out.cell 1; have k2 := hR.out.cell 2; have k3 := hR.out.cell 3; have k4 := hR.out.cell 4; have k5 := hR.out.cell 5; have z := hR.out.free; simp only [six0, List.getElem?_cons_zero, List.getElem?_cons_succ] at k0 k1 k2 k3 k4 k5
  go_wp2_with fail
  exact six_ret rfl rfl rfl (six hR.out rfl _ _ _ _ _ _) ⟨rfl, six_gr (gr_trans (gr_alloc (gr_refl _ _) _) hG.out) (Nat.le_refl _) _ _ _ _ _ _⟩
set_option maxHeartbeats 1000000 in
theorem cf_jump (h : Nat) (hh : h < 65536) (w : World) :
    Calls Tryz.prog 28 #[.int .u16 h] w fun e w' => e = .returned (.agg (insn 0 (vJump h))) ∧ w.grownBy w' none := by
  have HR := Lib.hid (Row.fresh w 26 six0)
  go_enter Tryz.func28, Tryz.ntmps28
  go_wp2_with fail
  refine (signed_c h 12 _ [8, 10, 9, 6, 7, 2, 11, 5, 4, 3, 0] hh (by decide) (by decide) (by decide) _ (by have hf := Row.fresh (w.alloc (.cells six0.toArray 26)) 35 (uvc [8, 10, 9, 6, 7, 2, 11, 5, 4, 3, 0]); rwa [World.size_alloc] at hf)).mono ?_
  rintro e w0 ⟨rfl, hg0⟩
  have hG := Lib.hid (gr_trans (gr_alloc (gr_refl (w.alloc (.cells six0.toArray 26)) none) (.cells (uvc [8, 10, 9, 6, 7, 2, 11, 5, 4, 3, 0]).toArray 35)) hg0)
  have hR := Lib.hid (HR.out.grown hG.out (by simp)); have k0 := hR.out.cell 0; have k1 := hR.out.cell 1; have k2 := hR.out.cell 2; have k3 := hR.out.cell 3; have k4 := hR.out.cell 4; have k5 := hR.out.cell 5; have z := hR.out.free; simp only [six0, List.getElem?_cons_zero, List.getElem?_cons_succ] at k0 k1 k2 k3 k4 k5
  go_wp2_with fail
  exact six_ret rfl rfl rfl (six hR.out rfl _ _ _ _ _ _) ⟨rfl, six_gr (gr_trans (gr_alloc (gr_refl _ _) _) hG.out) (Nat.le_refl _) _ _ _ _ _ _⟩
set_option maxHeartbeats 1000000 in
theorem cf_branchZero (h : Nat) (hh : h < 65536) (w : World) :
    Calls Tryz.prog 29 #[.int .u16 h] w fun e w' => e = .returned (.agg (insn 0 (vBranchZero h))) ∧ w.grownBy w' none := by
  have HR := Lib.hid (Row.fresh w 26 six0)
  go_enter Tryz.func29, Tryz.ntmps29
  go_wp2_with fail
  refine (shortR_c h hh _).mono ?_
  rintro e w0 ⟨rfl, rfl⟩
  go_wp2_with fail
  refine (branchBy_c h hh _).mono ?_
  rintro e w1 ⟨rfl, hg1⟩
  have hG := Lib.hid hg1
  have hR := Lib.hid (HR.out.grown hG.out (by simp)); have k0 := hR.out.cell 0; have k1 := hR.out.cell 1; have k2 := hR.out.cell 2; have k3 := hR.out.cell 3; have k4 := hR.out.cell 4; have k5 := hR.out.cell 5; have z := hR.out.free; simp only [six0, List.getElem?_cons_zero, List.getElem?_cons_succ] at k0 k1 k2 k3 k4 k5
  go_wp2_with fail
  exact six_ret rfl rfl rfl (six hR.out rfl _ _ _ _ _ _) ⟨rfl, six_gr (gr_trans (gr_alloc (gr_refl _ _) _) hG.out) (Nat.le_refl _) _ _ _ _ _ _⟩
set_option maxHeartbeats 1000000 in
theorem cf_branchOther (h : Nat) (hh : h < 65536) (w : World) :
    Calls Tryz.prog 30 #[.int .u16 h] w fun e w' => e = .returned (.agg (insn 0 (vBranchOther h))) ∧ w.grownBy w' none := by
  have HR := Lib.hid (Row.fresh w 26 six0)
  go_enter Tryz.func30, Tryz.ntmps30
  go_wp2_with fail
  refine (shortR_c h hh _).mono ?_
  rintro e w0 ⟨rfl, rfl⟩
  go_wp2_with fail
  refine (branchBy_c h hh _).mono ?_
  rintro e w1 ⟨rfl, hg1⟩
  have hG := Lib.hid hg1
  have hR := Lib.hid (HR.out.grown hG.out (by simp)); have k0 := hR.out.cell 0; have k1 := hR.out.cell 1; have k2 := hR.out.cell 2; have k3 := hR.out.cell 3; have k4 := hR.out.cell 4; have k5 := hR.out.cell 5; have z := hR.out.free; simp only [six0, List.getElem?_cons_zero, List.getElem?_cons_succ] at k0 k1 k2 k3 k4 k5
  go_wp2_with fail
  exact six_ret rfl rfl rfl (six hR.out rfl _ _ _ _ _ _) ⟨rfl, six_gr (gr_trans (gr_alloc (gr_refl _ _) _) hG.out) (Nat.le_refl _) _ _ _ _ _ _⟩
set_option maxHeartbeats 1000000 in
theorem cf_shiftLeft (h : Nat) (hh : h < 65536) (w : World) :
    Calls Tryz.prog 31 #[.int .u16 h] w fun e w' => e = .returned (.agg (insn 0 (vShiftLeft h))) ∧ w.grownBy w' none := by
  have HR := Lib.hid (Row.fresh w 26 six0)
  go_enter Tryz.func31, Tryz.ntmps31
  go_wp2_with fail
  refine (regR_c h hh _).mono ?_
  rintro e w0 ⟨rfl, rfl⟩
  go_wp2_with fail
  refine (regR_c h hh _).mono ?_
  rintro e w1 ⟨rfl, rfl⟩
  go_wp2_with fail
  refine (shift_c h hh _).mono ?_
  rintro e w2 ⟨rfl, hg2⟩
  have hG := Lib.hid hg2
  have hR := Lib.hid (HR.out.grown hG.out (by simp)); have k0 := hR.out.cell 0; have k1 := hR.out.cell 1; have k2 := hR.out.cell 2; have k3 := hR.out.cell 3; have k4 := hR.out.cell 4; have k5 := hR.out.cell 5; have z := hR.out.free; simp only [six0, List.getElem?_cons_zero, List.getElem?_cons_succ] at k0 k1 k2 k3 k4 k5
  go_wp2_with fail
  exact six_ret rfl rfl rfl (six hR.out rfl _ _ _ _ _ _) ⟨rfl, six_gr (gr_trans (gr_alloc (gr_refl _ _) _) hG.out) (Nat.le_refl _) _ _ _ _ _ _⟩
set_option maxHeartbeats 1000000 in
theorem cf_storeWordStack (h : Nat) (hh : h < 65536) (w : World) :
    Calls Tryz.prog 35 #[.int .u16 h] w fun e w' => e = .returned (.agg (insn 0 (vStoreWordStack h))) ∧ w.grownBy w' none := by
  have HR := Lib.hid (Row.fresh w 26 six0)
  go_enter Tryz.func35, Tryz.ntmps35
  go_wp2_with fail
  refine (regS_c h hh _).mono ?_
  rintro e w0 ⟨rfl, rfl⟩
  go_wp2_with fail
  refine (number_c h _ [8, 7, 12, 11, 10, 9, 0, 0] hh (by decide) (by decide) _ (by have hf := Row.fresh (w.alloc (.cells six0.toArray 26)) 35 (uvc [8, 7, 12, 11, 10, 9, 0, 0]); rwa [World.size_alloc] at hf)).mono ?_
  rintro e w1 ⟨rfl, rfl⟩
  go_wp2_with fail
  exact six_ret rfl rfl rfl ((Row.fresh w 26 [_, _, _, _, _, _]).alloc _) ⟨rfl, gr_alloc (gr_alloc (gr_refl _ _) _) _⟩
set_option maxHeartbeats 1000000 in
theorem cf_storeDoubleStack (h : Nat) (hh : h < 65536) (w : World) :
    Calls Tryz.prog 36 #[.int .u16 h] w fun e w' => e = .returned (.agg (insn 0 (vStoreDoubleStack h))) ∧ w.grownBy w' none := by
  have HR := Lib.hid (Row.fresh w 26 six0)
  go_enter Tryz.func36, Tryz.ntmps36
  go_wp2_with fail
  refine (regS_c h hh _).mono ?_
  rintro e w0 ⟨rfl, rfl⟩
  go_wp2_with fail
  refine (number_c h _ [9, 8, 7, 12, 11, 10, 0, 0, 0] hh (by decide) (by decide) _ (by have hf := Row.fresh (w.alloc (.cells six0.toArray 26)) 35 (uvc [9, 8, 7, 12, 11, 10, 0, 0, 0]); rwa [World.size_alloc] at hf)).mono ?_
  rintro e w1 ⟨rfl, rfl⟩
  go_wp2_with fail
  exact six_ret rfl rfl rfl ((Row.fresh w 26 [_, _, _, _, _, _]).alloc _) ⟨rfl, gr_alloc (gr_alloc (gr_refl _ _) _) _⟩
set_option maxHeartbeats 1000000 in
theorem cf_addSmall32 (h : Nat) (hh : h < 65536) (w : World) :
    Calls Tryz.prog 24 #[.int .u16 h] w fun e w' => e = .returned (.agg (insn 0 (vAddSmall32 h))) ∧ w.grownBy w' none := by
  have hr := Lib.hid (fun W => regR_c h hh W)
  rw [vAddSmall32]
  generalize rR h = r at *
  by_cases h0 : r = 0
  · subst h0
    rw [if_pos rfl]
    have HR := Lib.hid (Row.fresh w 26 six0)
    go_enter Tryz.func24, Tryz.ntmps24
    go_wp2_with fail
    refine (hr.out _).mono ?_
    rintro e w0 ⟨rfl, rfl⟩
    go_wp2_with fail
    refine (cnone_c h hh _).mono ?_
    rintro e w1 ⟨rfl, hg1⟩
    simp only [insn, vNone, bar]
    have hG := Lib.hid hg1
    have hR := Lib.hid (HR.out.grown hG.out (by simp)); have k0 := hR.out.cell 0; have k1 := hR.out.cell 1; have k2 := hR.out.cell 2; have k3 := hR.out.cell 3; have k4 := hR.out.cell 4; have k5 := hR.out.cell 5; have z := hR.out.free; simp only [six0, List.getElem?_cons_zero, List.getElem?_cons_succ] at k0 k1 k2 k3 k4 k5
    go_wp2_with fail
    exact six_ret rfl rfl rfl (six hR.out rfl _ _ _ _ _ _) ⟨rfl, six_gr (gr_trans (gr_alloc (gr_refl _ _) _) hG.out) (Nat.le_refl _) _ _ _ _ _ _⟩
  · rw [if_neg h0]
    have d0 : ((r : Int) == 0) = false := by simpa using h0
    have HR := Lib.hid (Row.fresh w 26 six0)
    go_enter Tryz.func24, Tryz.ntmps24
    go_wp2_with fail
    refine (hr.out _).mono ?_
    rintro e w0 ⟨rfl, rfl⟩
    go_wp2_with fail
    refine (hr.out _).mono ?_
    rintro e w1 ⟨rfl, rfl⟩
    go_wp2_with fail
    refine (hr.out _).mono ?_
    rintro e w2 ⟨rfl, rfl⟩
    go_wp2_with fail
    refine (small_c h hh _).mono ?_
    rintro e w3 ⟨rfl, hg3⟩
    have hG := Lib.hid hg3
    have hR := Lib.hid (HR.out.grown hG.out (by simp)); have k0 := hR.out.cell 0; have k1 := hR.out.cell 1; have k2 := hR.out.cell 2; have k3 := hR.out.cell 3; have k4 := hR.out.cell 4; have k5 := hR.out.cell 5; have z := hR.out.free; simp only [six0, List.getElem?_cons_zero, List.getElem?_cons_succ] at k0 k1 k2 k3 k4 k5
    go_wp2_with fail
    exact six_ret rfl rfl rfl (six hR.out rfl _ _ _ _ _ _) ⟨rfl, six_gr (gr_trans (gr_alloc (gr_refl _ _) _) hG.out) (Nat.le_refl _) _ _ _ _ _ _⟩
set_option maxHeartbeats 1000000 in
theorem cf_loadWordStack (h : Nat) (hh : h < 65536) (w : World) :
    Calls Tryz.prog 32 #[.int .u16 h] w fun e w' => e = .returned (.agg (insn 0 (vLoadWordStack h))) ∧ w.grownBy w' none := by
  have hr := Lib.hid (fun W => regR_c h hh W)
  rw [vLoadWordStack]
  generalize rR h = r at *
  by_cases h0 : r = 0
  · subst h0
    rw [if_pos rfl]
    have HR := Lib.hid (Row.fresh w 26 six0)
    go_enter Tryz.func32, Tryz.ntmps32
    go_wp2_with fail
    refine (hr.out _).mono ?_
    rintro e w0 ⟨rfl, rfl⟩
    go_wp2_with fail
    refine (cnone_c h hh _).mono ?_
    rintro e w1 ⟨rfl, hg1⟩
    simp only [insn, vNone, bar]
    have hG := Lib.hid hg1
    have hR := Lib.hid (HR.out.grown hG.out (by simp)); have k0 := hR.out.cell 0; have k1 := hR.out.cell 1; have k2 := hR.out.cell 2; have k3 := hR.out.cell 3; have k4 := hR.out.cell 4; have k5 := hR.out.cell 5; have z := hR.out.free; simp only [six0, List.getElem?_cons_zero, List.getElem?_cons_succ] at k0 k1 k2 k3 k4 k5
    go_wp2_with fail
    exact six_ret rfl rfl rfl (six hR.out rfl _ _ _ _ _ _) ⟨rfl, six_gr (gr_trans (gr_alloc (gr_refl _ _) _) hG.out) (Nat.le_refl _) _ _ _ _ _ _⟩
  · rw [if_neg h0]
    have d0 : ((r : Int) == 0) = false := by simpa using h0
    have HR := Lib.hid (Row.fresh w 26 six0)
    go_enter Tryz.func32, Tryz.ntmps32
    go_wp2_with fail
    refine (hr.out _).mono ?_
    rintro e w0 ⟨rfl, rfl⟩
    go_wp2_with fail
    refine (hr.out _).mono ?_
    rintro e w1 ⟨rfl, rfl⟩
    go_wp2_with fail
    refine (number_c h _ [3, 2, 12, 6, 5, 4, 0, 0] hh (by decide) (by decide) _ (by have hf := Row.fresh (w.alloc (.cells six0.toArray 26)) 35 (uvc [3, 2, 12, 6, 5, 4, 0, 0]); rwa [World.size_alloc] at hf)).mono ?_
    rintro e w2 ⟨rfl, rfl⟩
    go_wp2_with fail
    exact six_ret rfl rfl rfl ((Row.fresh w 26 [_, _, _, _, _, _]).alloc _) ⟨rfl, gr_alloc (gr_alloc (gr_refl _ _) _) _⟩
set_option maxHeartbeats 1000000 in
theorem cf_loadDoubleStack (h : Nat) (hh : h < 65536) (w : World) :
    Calls Tryz.prog 33 #[.int .u16 h] w fun e w' => e = .returned (.agg (insn 0 (vLoadDoubleStack h))) ∧ w.grownBy w' none := by
  have hr := Lib.hid (fun W => regR_c h hh W)
  rw [vLoadDoubleStack]
  generalize rR h = r at *
  by_cases h0 : r = 0
  · subst h0
    rw [if_pos rfl]
    have HR := Lib.hid (Row.fresh w 26 six0)
    go_enter Tryz.func33, Tryz.ntmps33
    go_wp2_with fail
    refine (hr.out _).mono ?_
    rintro e w0 ⟨rfl, rfl⟩
    go_wp2_with fail
    refine (cnone_c h hh _).mono ?_
    rintro e w1 ⟨rfl, hg1⟩
    simp only [insn, vNone, bar]
    have hG := Lib.hid hg1
    have hR := Lib.hid (HR.out.grown hG.out (by simp)); have k0 := hR.out.cell 0; have k1 := hR.out.cell 1; have k2 := hR.out.cell 2; have k3 := hR.out.cell 3; have k4 := hR.out.cell 4; have k5 := hR.out.cell 5; have z := hR.out.free; simp only [six0, List.getElem?_cons_zero, List.getElem?_cons_succ] at k0 k1 k2 k3 k4 k5
    go_wp2_with fail
    exact six_ret rfl rfl rfl (six hR.out rfl _ _ _ _ _ _) ⟨rfl, six_gr (gr_trans (gr_alloc (gr_refl _ _) _) hG.out) (Nat.le_refl _) _ _ _ _ _ _⟩
  · rw [if_neg h0]
    have d0 : ((r : Int) == 0) = false := by simpa using h0
    have HR := Lib.hid (Row.fresh w 26 six0)
    go_enter Tryz.func33, Tryz.ntmps33
    go_wp2_with fail
    refine (hr.out _).mono ?_
    rintro e w0 ⟨rfl, rfl⟩
    go_wp2_with fail
    refine (hr.out _).mono ?_
    rintro e w1 ⟨rfl, rfl⟩
    go_wp2_with fail
    refine (number_c h _ [4, 3, 2, 12, 6, 5, 0, 0, 0] hh (by decide) (by decide) _ (by have hf := Row.fresh (w.alloc (.cells six0.toArray 26)) 35 (uvc [4, 3, 2, 12, 6, 5, 0, 0, 0]); rwa [World.size_alloc] at hf)).mono ?_
    rintro e w2 ⟨rfl, rfl⟩
    go_wp2_with fail
    exact six_ret rfl rfl rfl ((Row.fresh w 26 [_, _, _, _, _, _]).alloc _) ⟨rfl, gr_alloc (gr_alloc (gr_refl _ _) _) _⟩
set_option maxHeartbeats 1000000 in
theorem cf_addStackTo (h : Nat) (hh : h < 65536) (w : World) :
    Calls Tryz.prog 17 #[.int .u16 h] w fun e w' => e = .returned (.agg (insn 0 (vAddStackTo h))) ∧ w.grownBy w' none := by
  have hn := Lib.hid (fun W g hR => number_c h g [10, 9, 8, 7, 12, 11, 5, 6, 0, 0] hh (by decide) (by decide) W hR)
  rw [vAddStackTo, stackToV]
  generalize numV h [10, 9, 8, 7, 12, 11, 5, 6, 0, 0] = n at *
  by_cases h0 : (n : Int) = 0
  · rw [if_pos h0]
    rw [h0] at hn
    clear h0
    have HR := Lib.hid (Row.fresh w 26 six0)
    go_enter Tryz.func17, Tryz.ntmps17
    go_wp2_with fail
    refine (hn.out _ _ (by have hf := Row.fresh (w.alloc (.cells six0.toArray 26)) 35 (uvc [10, 9, 8, 7, 12, 11, 5, 6, 0, 0]); rwa [World.size_alloc] at hf)).mono ?_
    rintro e w0 ⟨rfl, rfl⟩
    go_wp2_with fail
    refine (cnone_c h hh _).mono ?_
    rintro e w1 ⟨rfl, hg1⟩
    simp only [insn, vNone, bar]
    have hG := Lib.hid (gr_trans (gr_alloc (gr_refl (w.alloc (.cells six0.toArray 26)) none) (.cells (uvc [10, 9, 8, 7, 12, 11, 5, 6, 0, 0]).toArray 35)) hg1)
    have hR := Lib.hid (HR.out.grown hG.out (by simp)); have k0 := hR.out.cell 0; have k1 := hR.out.cell 1; have k2 := hR.out.cell 2; have k3 := hR.out.cell 3; have k4 := hR.out.cell 4; have k5 := hR.out.cell 5; have z := hR.out.free; simp only [six0, List.getElem?_cons_zero, List.getElem?_cons_succ] at k0 k1 k2 k3 k4 k5
    go_wp2_with fail
    exact six_ret rfl rfl rfl (six hR.out rfl _ _ _ _ _ _) ⟨rfl, six_gr (gr_trans (gr_alloc (gr_refl _ _) _) hG.out) (Nat.le_refl _) _ _ _ _ _ _⟩
  · rw [if_neg h0]
    have d0 : ((n : Int) == 0) = false := by simpa using h0
    have HR := Lib.hid (Row.fresh w 26 six0)
    go_enter Tryz.func17, Tryz.ntmps17
    go_wp2_with fail
    refine (hn.out _ _ (by have hf := Row.fresh (w.alloc (.cells six0.toArray 26)) 35 (uvc [10, 9, 8, 7, 12, 11, 5, 6, 0, 0]); rwa [World.size_alloc] at hf)).mono ?_
    rintro e w0 ⟨rfl, rfl⟩
    go_wp2_with fail
    refine (shortS_c h hh _).mono ?_
    rintro e w1 ⟨rfl, rfl⟩
    go_wp2_with fail
    exact six_ret rfl rfl rfl ((Row.fresh w 26 [_, _, _, _, _, _]).alloc _) ⟨rfl, gr_alloc (gr_alloc (gr_refl _ _) _) _⟩
set_option maxHeartbeats 1000000 in
theorem cf_registers (h : Nat) (hh : h < 65536) (w : World) :
    Calls Tryz.prog 34 #[.int .u16 h] w fun e w' => e = .returned (.agg (insn 0 (vRegisters h))) ∧ w.grownBy w' none := by
  have hr := Lib.hid (fun W => regR_c h hh W)
  have hs := Lib.hid (fun W => regS_c h hh W)
  have hb := Lib.hid (fun W => cget_c h 12 1 hh (by decide) (by decide) W)
  have b1 := bit_le h 12
  have r1 : rR h ≤ 31 := by have := get_lt h 7 5; unfold rR; omega
  rw [vRegisters]
  generalize rR h = r at *
  generalize rS h = s at *
  generalize F.get h 12 1 = b at *
  by_cases s0 : s = 0
  · subst s0
    rw [if_neg (by simp)]
    by_cases r0 : r = 0
    · subst r0
      rw [if_neg (by simp)]
      rcases (show b = 0 ∨ b = 1 by omega) with rfl | rfl
      · rw [if_neg (by decide)]
        have HR := Lib.hid (Row.fresh w 26 six0)
        go_enter Tryz.func34, Tryz.ntmps34
        go_wp2_with fail
        refine (hr.out _).mono ?_
        rintro e w0 ⟨rfl, rfl⟩
        go_wp2_with fail
        refine (hs.out _).mono ?_
        rintro e w1 ⟨rfl, rfl⟩
        go_wp2_with fail
        refine (hb.out _).mono ?_
        rintro e w2 ⟨rfl, rfl⟩
        go_wp2_with fail
        refine (cnone_c h hh _).mono ?_
        rintro e w3 ⟨rfl, hg3⟩
        simp only [insn, vNone, bar]
        have hG := Lib.hid hg3
        have hR := Lib.hid (HR.out.grown hG.out (by simp)); have k0 := hR.out.cell 0; have k1 := hR.out.cell 1; have k2 := hR.out.cell 2; have k3 := hR.out.cell 3; have k4 := hR.out.cell 4; have k5 := hR.out.cell 5; have z := hR.out.free; simp only [six0, List.getElem?_cons_zero, List.getElem?_cons_succ] at k0 k1 k2 k3 k4 k5
        go_wp2_with fail
        exact six_ret rfl rfl rfl (six hR.out rfl _ _ _ _ _ _) ⟨rfl, six_gr (gr_trans (gr_alloc (gr_refl _ _) _) hG.out) (Nat.le_refl _) _ _ _ _ _ _⟩
      · rw [if_pos rfl]
        have HR := Lib.hid (Row.fresh w 26 six0)
        go_enter Tryz.func34, Tryz.ntmps34
        go_wp2_with fail
        refine (hr.out _).mono ?_
        rintro e w0 ⟨rfl, rfl⟩
        go_wp2_with fail
        refine (hs.out _).mono ?_
        rintro e w1 ⟨rfl, rfl⟩
        go_wp2_with fail
        refine (hb.out _).mono ?_
        rintro e w2 ⟨rfl, rfl⟩
        go_wp2_with fail
        exact six_ret rfl rfl rfl (Row.fresh w 26 [_, _, _, _, _, _]) ⟨rfl, gr_alloc (gr_refl _ _) _⟩
    · rw [if_pos r0]
      have d0 : ((r : Int) != 0) = true := by simpa using r0
      have HR := Lib.hid (Row.fresh w 26 six0)
      go_enter Tryz.func34, Tryz.ntmps34
      go_wp2_with fail
      refine (hr.out _).mono ?_
      rintro e w0 ⟨rfl, rfl⟩
      go_wp2_with fail
      refine (hs.out _).mono ?_
      rintro e w1 ⟨rfl, rfl⟩
      go_wp2_with fail
      refine (hb.out _).mono ?_
      rintro e w2 ⟨rfl, rfl⟩
      go_wp2_with fail
      exact six_ret rfl rfl rfl (Row.fresh w 26 [_, _, _, _, _, _]) ⟨rfl, gr_alloc (gr_refl _ _) _⟩
  · rw [if_pos s0]
    have d0 : ((s : Int) != 0) = true := by simpa using s0
    rcases (show b = 0 ∨ b = 1 by omega) with rfl | rfl
    · rw [Nat.mul_zero]
      have HR := Lib.hid (Row.fresh w 26 six0)
      go_enter Tryz.func34, Tryz.ntmps34
      go_wp2_with fail
      refine (hr.out _).mono ?_
      rintro e w0 ⟨rfl, rfl⟩
      go_wp2_with fail
      refine (hs.out _).mono ?_
      rintro e w1 ⟨rfl, rfl⟩
      go_wp2_with fail
      refine (hb.out _).mono ?_
      rintro e w2 ⟨rfl, rfl⟩
      go_wp2_with fail
      exact six_ret rfl rfl rfl (Row.fresh w 26 [_, _, _, _, _, _]) ⟨rfl, gr_alloc (gr_refl _ _) _⟩
    · rw [Nat.mul_one]
      have HR := Lib.hid (Row.fresh w 26 six0)
      go_enter Tryz.func34, Tryz.ntmps34
      go_wp2_with fail
      refine (hr.out _).mono ?_
      rintro e w0 ⟨rfl, rfl⟩
      go_wp2_with fail
      refine (hs.out _).mono ?_
      rintro e w1 ⟨rfl, rfl⟩
      go_wp2_with fail
      refine (hb.out _).mono ?_
      rintro e w2 ⟨rfl, rfl⟩
      go_wp2_with fail
      exact six_ret rfl rfl rfl (Row.fresh w 26 [_, _, _, _, _, _]) ⟨rfl, gr_alloc (gr_refl _ _) _⟩
end Go.Proofs.YthdjbmajdbfebaaGreat
