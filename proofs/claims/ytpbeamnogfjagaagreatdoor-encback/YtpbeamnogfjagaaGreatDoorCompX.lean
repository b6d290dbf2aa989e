/-
  What the document's own halves of q 1 (package suzerainref05: one) are: contracts over the translation, by the program's plain functions.
  Conditions: the argument is a half.
-/
import Derived.Test.YtpbeamnogfjagaaGreatDoorCompY
namespace Go.Proofs.YtpbeamnogfjagaaGreatDoor.refHalf
open Go Go.RowKit F W M D
set_option linter.unusedVariables false
set_option maxRecDepth 100000

set_option maxRecDepth 100000 in
set_option maxHeartbeats 4000000 in
theorem one0 (h : Nat) (hh : h < 65536) (hf : F.get h 13 3 = 0) (w : World) :
    Calls Tryz.prog 33 #[.int .u32 h] w fun e w' => e = .returned (.agg (insn 2 (cl (form h 1 0)))) ∧ w.grownBy w' none := by
  have HR := Lib.hid (Row.fresh w 23 six0)
  have H7 := Lib.hid (fun W => rGet_n h 7 5 (by omega) (by decide) (by decide) W)
  have HL := Lib.hid (fun W => rGet_n h 7 3 (by omega) (by decide) (by decide) W)
  have HB := Lib.hid (fun W g hR => rsigned_c h 12 g [6, 5, 2, 11, 10, 4, 3, 0] hh (by decide) (by decide) (by decide) W hR)
  have H13 := Lib.hid (fun W => rGet_n h 13 3 (by omega) (by decide) (by decide) W)
  have b7 := get_lt h 7 5
  have bl := get_lt h 7 3
  rw [hf] at H13
  clear hf
  rw [show cl (form h 1 0) = (22, ((F.get h 7 5 : Nat) : Int), ((F.get h 7 5 : Nat) : Int), 0, smallV h) from rfl]
  have HS := Lib.hid (fun W => rsmall_c h hh W)
  generalize smallV h = n at *
  generalize F.get h 7 5 = r at *
  generalize F.get h 7 3 = l at *
  generalize sgd h 12 [6, 5, 2, 11, 10, 4, 3, 0] = nb at *
  go_enter Tryz.func33, Tryz.ntmps33
  go_wp2_with fail
  refine (H7.out _).mono ?_
  rintro e w0 ⟨rfl, rfl⟩
  go_wp2_with fail
  refine (HL.out _).mono ?_
  rintro e w0 ⟨rfl, rfl⟩
  go_wp2_with fail
  refine (HB.out _ _ (by have hf := Row.fresh (w.alloc (.cells six0.toArray 23)) 3 (zv [12, 6, 5, 2, 11, 10, 4, 3, 0]); rw [World.size_alloc] at hf; exact hf)).mono ?_
  rintro e w0 ⟨rfl, rfl⟩
  go_wp2_with fail
  refine (H13.out _).mono ?_
  rintro e w0 ⟨rfl, rfl⟩
  go_wp2_with fail
  refine (HS.out _).mono ?_
  rintro e w1 ⟨rfl, hg1⟩
  go_wp2_with fail
  refine (rmake3_c _ _ _ _ _ _).mono ?_
  rintro e w2 ⟨rfl, hg2⟩
  have hG := Lib.hid (gr_trans ((gr_trans ((gr_alloc (gr_refl (w.alloc (.cells six0.toArray 23)) none) _)) hg1)) hg2)
  have hR := Lib.hid (HR.out.grown hG.out (by simp)); have k0 := hR.out.cell 0; have k1 := hR.out.cell 1; have k2 := hR.out.cell 2; have k3 := hR.out.cell 3; have k4 := hR.out.cell 4; have k5 := hR.out.cell 5; have z := hR.out.free; simp only [six0, List.getElem?_cons_zero, List.getElem?_cons_succ] at k0 k1 k2 k3 k4 k5
  go_wp2_with fail
  exact six_ret rfl rfl rfl (six hR.out rfl _ _ _ _ _ _) ⟨rfl, six_gr (gr_trans (gr_alloc (gr_refl _ _) _) hG.out) (Nat.le_refl _) _ _ _ _ _ _⟩
set_option maxRecDepth 100000 in
set_option maxHeartbeats 4000000 in
theorem one2 (h : Nat) (hh : h < 65536) (hf : F.get h 13 3 = 2) (w : World) :
    Calls Tryz.prog 33 #[.int .u32 h] w fun e w' => e = .returned (.agg (insn 2 (cl (form h 1 2)))) ∧ w.grownBy w' none := by
  have HR := Lib.hid (Row.fresh w 23 six0)
  have H7 := Lib.hid (fun W => rGet_n h 7 5 (by omega) (by decide) (by decide) W)
  have HL := Lib.hid (fun W => rGet_n h 7 3 (by omega) (by decide) (by decide) W)
  have HB := Lib.hid (fun W g hR => rsigned_c h 12 g [6, 5, 2, 11, 10, 4, 3, 0] hh (by decide) (by decide) (by decide) W hR)
  have H13 := Lib.hid (fun W => rGet_n h 13 3 (by omega) (by decide) (by decide) W)
  have b7 := get_lt h 7 5
  have bl := get_lt h 7 3
  rw [hf] at H13
  clear hf
  rw [show cl (form h 1 2) = (22, ((F.get h 7 5 : Nat) : Int), 0, 0, smallV h) from rfl]
  have HS := Lib.hid (fun W => rsmall_c h hh W)
  generalize smallV h = n at *
  generalize F.get h 7 5 = r at *
  generalize F.get h 7 3 = l at *
  generalize sgd h 12 [6, 5, 2, 11, 10, 4, 3, 0] = nb at *
  go_enter Tryz.func33, Tryz.ntmps33
  go_wp2_with fail
  refine (H7.out _).mono ?_
  rintro e w0 ⟨rfl, rfl⟩
  go_wp2_with fail
  refine (HL.out _).mono ?_
  rintro e w0 ⟨rfl, rfl⟩
  go_wp2_with fail
  refine (HB.out _ _ (by have hf := Row.fresh (w.alloc (.cells six0.toArray 23)) 3 (zv [12, 6, 5, 2, 11, 10, 4, 3, 0]); rw [World.size_alloc] at hf; exact hf)).mono ?_
  rintro e w0 ⟨rfl, rfl⟩
  go_wp2_with fail
  refine (H13.out _).mono ?_
  rintro e w0 ⟨rfl, rfl⟩
  go_wp2_with fail
  refine (HS.out _).mono ?_
  rintro e w1 ⟨rfl, hg1⟩
  go_wp2_with fail
  refine (rmake3_c _ _ _ _ _ _).mono ?_
  rintro e w2 ⟨rfl, hg2⟩
  have hG := Lib.hid (gr_trans ((gr_trans ((gr_alloc (gr_refl (w.alloc (.cells six0.toArray 23)) none) _)) hg1)) hg2)
  have hR := Lib.hid (HR.out.grown hG.out (by simp)); have k0 := hR.out.cell 0; have k1 := hR.out.cell 1; have k2 := hR.out.cell 2; have k3 := hR.out.cell 3; have k4 := hR.out.cell 4; have k5 := hR.out.cell 5; have z := hR.out.free; simp only [six0, List.getElem?_cons_zero, List.getElem?_cons_succ] at k0 k1 k2 k3 k4 k5
  go_wp2_with fail
  exact six_ret rfl rfl rfl (six hR.out rfl _ _ _ _ _ _) ⟨rfl, six_gr (gr_trans (gr_alloc (gr_refl _ _) _) hG.out) (Nat.le_refl _) _ _ _ _ _ _⟩
set_option maxRecDepth 100000 in
set_option maxHeartbeats 4000000 in
theorem one1 (h : Nat) (hh : h < 65536) (hf : F.get h 13 3 = 1) (w : World) :
    Calls Tryz.prog 33 #[.int .u32 h] w fun e w' => e = .returned (.agg (insn 2 (cl (form h 1 1)))) ∧ w.grownBy w' none := by
  have HR := Lib.hid (Row.fresh w 23 six0)
  have H7 := Lib.hid (fun W => rGet_n h 7 5 (by omega) (by decide) (by decide) W)
  have HL := Lib.hid (fun W => rGet_n h 7 3 (by omega) (by decide) (by decide) W)
  have HB := Lib.hid (fun W g hR => rsigned_c h 12 g [6, 5, 2, 11, 10, 4, 3, 0] hh (by decide) (by decide) (by decide) W hR)
  have H13 := Lib.hid (fun W => rGet_n h 13 3 (by omega) (by decide) (by decide) W)
  have b7 := get_lt h 7 5
  have bl := get_lt h 7 3
  rw [hf] at H13
  clear hf
  rw [show form h 1 1 = (if F.get h 7 5 = 0 then (0, bar) else (41, ((F.get h 7 5 : Nat) : Int), ((F.get h 7 5 : Nat) : Int), 0, smallV h)) from rfl]
  have HS := Lib.hid (fun W => rsmall_c h hh W)
  generalize smallV h = n at *
  generalize F.get h 7 5 = r at *
  generalize F.get h 7 3 = l at *
  generalize sgd h 12 [6, 5, 2, 11, 10, 4, 3, 0] = nb at *
  by_cases h0 : r = 0
  · subst h0
    rw [if_pos rfl, cl_no rfl]
    go_enter Tryz.func33, Tryz.ntmps33
    go_wp2_with fail
    refine (H7.out _).mono ?_
    rintro e w0 ⟨rfl, rfl⟩
    go_wp2_with fail
    refine (HL.out _).mono ?_
    rintro e w0 ⟨rfl, rfl⟩
    go_wp2_with fail
    refine (HB.out _ _ (by have hf := Row.fresh (w.alloc (.cells six0.toArray 23)) 3 (zv [12, 6, 5, 2, 11, 10, 4, 3, 0]); rw [World.size_alloc] at hf; exact hf)).mono ?_
    rintro e w0 ⟨rfl, rfl⟩
    go_wp2_with fail
    refine (H13.out _).mono ?_
    rintro e w0 ⟨rfl, rfl⟩
    go_wp2_with fail
    refine (rnone_c _).mono ?_
    rintro e w1 ⟨rfl, hg1⟩
    have hG := Lib.hid (gr_trans ((gr_alloc (gr_refl (w.alloc (.cells six0.toArray 23)) none) _)) hg1)
    have hR := Lib.hid (HR.out.grown hG.out (by simp)); have k0 := hR.out.cell 0; have k1 := hR.out.cell 1; have k2 := hR.out.cell 2; have k3 := hR.out.cell 3; have k4 := hR.out.cell 4; have k5 := hR.out.cell 5; have z := hR.out.free; simp only [six0, List.getElem?_cons_zero, List.getElem?_cons_succ] at k0 k1 k2 k3 k4 k5
    go_wp2_with fail
    exact six_ret rfl rfl rfl (six hR.out rfl _ _ _ _ _ _) ⟨rfl, six_gr (gr_trans (gr_alloc (gr_refl _ _) _) hG.out) (Nat.le_refl _) _ _ _ _ _ _⟩
  · rw [if_neg h0, cl_is (show (41 : Int) ≠ 0 by decide)]
    have d0 : ((r : Int) == 0) = false := by simpa using h0
    go_enter Tryz.func33, Tryz.ntmps33
    go_wp2_with fail
    refine (H7.out _).mono ?_
    rintro e w0 ⟨rfl, rfl⟩
    go_wp2_with fail
    refine (HL.out _).mono ?_
    rintro e w0 ⟨rfl, rfl⟩
    go_wp2_with fail
    refine (HB.out _ _ (by have hf := Row.fresh (w.alloc (.cells six0.toArray 23)) 3 (zv [12, 6, 5, 2, 11, 10, 4, 3, 0]); rw [World.size_alloc] at hf; exact hf)).mono ?_
    rintro e w0 ⟨rfl, rfl⟩
    go_wp2_with fail
    refine (H13.out _).mono ?_
    rintro e w0 ⟨rfl, rfl⟩
    go_wp2_with fail
    refine (HS.out _).mono ?_
    rintro e w1 ⟨rfl, hg1⟩
    go_wp2_with fail
    refine (rmake3_c _ _ _ _ _ _).mono ?_
    rintro e w2 ⟨rfl, hg2⟩
    have hG := Lib.hid (gr_trans ((gr_trans ((gr_alloc (gr_refl (w.alloc (.cells six0.toArray 23)) none) _)) hg1)) hg2)
    have hR := Lib.hid (HR.out.grown hG.out (by simp)); have k0 := hR.out.cell 0; have k1 := hR.out.cell 1; have k2 := hR.out.cell 2; have k3 := hR.out.cell 3; have k4 := hR.out.cell 4; have k5 := hR.out.cell 5; have z := hR.out.free; simp only [six0, List.getElem?_cons_zero, List.getElem?_cons_succ] at k0 k1 k2 k3 k4 k5
    go_wp2_with fail
    exact six_ret rfl rfl rfl (six hR.out rfl _ _ _ _ _ _) ⟨rfl, six_gr (gr_trans (gr_alloc (gr_refl _ _) _) hG.out) (Nat.le_refl _) _ _ _ _ _ _⟩
set_option maxRecDepth 100000 in
set_option maxHeartbeats 4000000 in
theorem one3 (h : Nat) (hh : h < 65536) (hf : F.get h 13 3 = 3) (w : World) :
    Calls Tryz.prog 33 #[.int .u32 h] w fun e w' => e = .returned (.agg (insn 2 (cl (form h 1 3)))) ∧ w.grownBy w' none := by
  have HR := Lib.hid (Row.fresh w 23 six0)
  have H7 := Lib.hid (fun W => rGet_n h 7 5 (by omega) (by decide) (by decide) W)
  have HL := Lib.hid (fun W => rGet_n h 7 3 (by omega) (by decide) (by decide) W)
  have HB := Lib.hid (fun W g hR => rsigned_c h 12 g [6, 5, 2, 11, 10, 4, 3, 0] hh (by decide) (by decide) (by decide) W hR)
  have H13 := Lib.hid (fun W => rGet_n h 13 3 (by omega) (by decide) (by decide) W)
  have b7 := get_lt h 7 5
  have bl := get_lt h 7 3
  rw [hf] at H13
  clear hf
  have sb := smallV_bd h
  have HT := Lib.hid (fun W g hR => rsigned_c h 12 g [4, 3, 5, 2, 6, 0, 0, 0, 0] hh (by decide) (by decide) (by decide) W hR)
  rw [show form h 1 3 = (if F.get h 7 5 = 2 then (if sgd h 12 [4, 3, 5, 2, 6, 0, 0, 0, 0] = 0 then (0, bar) else (22, 2, 2, 0, sgd h 12 [4, 3, 5, 2, 6, 0, 0, 0, 0])) else (if smallV h = 0 then (0, bar) else (1, ((F.get h 7 5 : Nat) : Int), 0, 0, smallV h * 4096))) from rfl]
  have HS := Lib.hid (fun W => rsmall_c h hh W)
  generalize smallV h = n at *
  generalize F.get h 7 5 = r at *
  generalize F.get h 7 3 = l at *
  generalize sgd h 12 [6, 5, 2, 11, 10, 4, 3, 0] = nb at *
  generalize sgd h 12 [4, 3, 5, 2, 6, 0, 0, 0, 0] = m at *
  by_cases h2 : r = 2
  · subst h2
    rw [if_pos rfl]
    by_cases h0 : m = 0
    · subst h0
      rw [if_pos rfl, cl_no rfl]
      go_enter Tryz.func33, Tryz.ntmps33
      go_wp2_with fail
      refine (H7.out _).mono ?_
      rintro e w0 ⟨rfl, rfl⟩
      go_wp2_with fail
      refine (HL.out _).mono ?_
      rintro e w0 ⟨rfl, rfl⟩
      go_wp2_with fail
      refine (HB.out _ _ (by have hf := Row.fresh (w.alloc (.cells six0.toArray 23)) 3 (zv [12, 6, 5, 2, 11, 10, 4, 3, 0]); rw [World.size_alloc] at hf; exact hf)).mono ?_
      rintro e w0 ⟨rfl, rfl⟩
      go_wp2_with fail
      refine (H13.out _).mono ?_
      rintro e w0 ⟨rfl, rfl⟩
      go_wp2_with fail
      refine (HT.out _ _ (by have hf := Row.fresh ((w.alloc (.cells six0.toArray 23)).alloc (.cells (zv [12, 6, 5, 2, 11, 10, 4, 3, 0]).toArray 3)) 3 (zv [12, 4, 3, 5, 2, 6, 0, 0, 0, 0]); rw [World.size_alloc, World.size_alloc] at hf; exact hf)).mono ?_
      rintro e w0 ⟨rfl, rfl⟩
      go_wp2_with fail
      refine (rnone_c _).mono ?_
      rintro e w1 ⟨rfl, hg1⟩
      have hG := Lib.hid (gr_trans ((gr_alloc ((gr_alloc (gr_refl (w.alloc (.cells six0.toArray 23)) none) _)) _)) hg1)
      have hR := Lib.hid (HR.out.grown hG.out (by simp)); have k0 := hR.out.cell 0; have k1 := hR.out.cell 1; have k2 := hR.out.cell 2; have k3 := hR.out.cell 3; have k4 := hR.out.cell 4; have k5 := hR.out.cell 5; have z := hR.out.free; simp only [six0, List.getElem?_cons_zero, List.getElem?_cons_succ] at k0 k1 k2 k3 k4 k5
      go_wp2_with fail
      exact six_ret rfl rfl rfl (six hR.out rfl _ _ _ _ _ _) ⟨rfl, six_gr (gr_trans (gr_alloc (gr_refl _ _) _) hG.out) (Nat.le_refl _) _ _ _ _ _ _⟩
    · rw [if_neg h0, cl_is (show (22 : Int) ≠ 0 by decide)]
      have d0 : (m == 0) = false := by simpa using h0
      go_enter Tryz.func33, Tryz.ntmps33
      go_wp2_with fail
      refine (H7.out _).mono ?_
      rintro e w0 ⟨rfl, rfl⟩
      go_wp2_with fail
      refine (HL.out _).mono ?_
      rintro e w0 ⟨rfl, rfl⟩
      go_wp2_with fail
      refine (HB.out _ _ (by have hf := Row.fresh (w.alloc (.cells six0.toArray 23)) 3 (zv [12, 6, 5, 2, 11, 10, 4, 3, 0]); rw [World.size_alloc] at hf; exact hf)).mono ?_
      rintro e w0 ⟨rfl, rfl⟩
      go_wp2_with fail
      refine (H13.out _).mono ?_
      rintro e w0 ⟨rfl, rfl⟩
      go_wp2_with fail
      refine (HT.out _ _ (by have hf := Row.fresh ((w.alloc (.cells six0.toArray 23)).alloc (.cells (zv [12, 6, 5, 2, 11, 10, 4, 3, 0]).toArray 3)) 3 (zv [12, 4, 3, 5, 2, 6, 0, 0, 0, 0]); rw [World.size_alloc, World.size_alloc] at hf; exact hf)).mono ?_
      rintro e w0 ⟨rfl, rfl⟩
      go_wp2_with fail
      refine (rmake3_c _ _ _ _ _ _).mono ?_
      rintro e w1 ⟨rfl, hg1⟩
      have hG := Lib.hid (gr_trans ((gr_alloc ((gr_alloc (gr_refl (w.alloc (.cells six0.toArray 23)) none) _)) _)) hg1)
      have hR := Lib.hid (HR.out.grown hG.out (by simp)); have k0 := hR.out.cell 0; have k1 := hR.out.cell 1; have k2 := hR.out.cell 2; have k3 := hR.out.cell 3; have k4 := hR.out.cell 4; have k5 := hR.out.cell 5; have z := hR.out.free; simp only [six0, List.getElem?_cons_zero, List.getElem?_cons_succ] at k0 k1 k2 k3 k4 k5
      go_wp2_with fail
      exact six_ret rfl rfl rfl (six hR.out rfl _ _ _ _ _ _) ⟨rfl, six_gr (gr_trans (gr_alloc (gr_refl _ _) _) hG.out) (Nat.le_refl _) _ _ _ _ _ _⟩
  · rw [if_neg h2]
    have d2 : ((r : Int) == 2) = false := by simp; omega
    by_cases h0 : n = 0
    · subst h0
      rw [if_pos rfl, cl_no rfl]
      go_enter Tryz.func33, Tryz.ntmps33
      go_wp2_with fail
      refine (H7.out _).mono ?_
      rintro e w0 ⟨rfl, rfl⟩
      go_wp2_with fail
      refine (HL.out _).mono ?_
      rintro e w0 ⟨rfl, rfl⟩
      go_wp2_with fail
      refine (HB.out _ _ (by have hf := Row.fresh (w.alloc (.cells six0.toArray 23)) 3 (zv [12, 6, 5, 2, 11, 10, 4, 3, 0]); rw [World.size_alloc] at hf; exact hf)).mono ?_
      rintro e w0 ⟨rfl, rfl⟩
      go_wp2_with fail
      refine (H13.out _).mono ?_
      rintro e w0 ⟨rfl, rfl⟩
      go_wp2_with fail
      refine (HS.out _).mono ?_
      rintro e w1 ⟨rfl, hg1⟩
      go_wp2_with fail
      refine (rnone_c _).mono ?_
      rintro e w2 ⟨rfl, hg2⟩
      have hG := Lib.hid (gr_trans ((gr_trans ((gr_alloc (gr_refl (w.alloc (.cells six0.toArray 23)) none) _)) hg1)) hg2)
      have hR := Lib.hid (HR.out.grown hG.out (by simp)); have k0 := hR.out.cell 0; have k1 := hR.out.cell 1; have k2 := hR.out.cell 2; have k3 := hR.out.cell 3; have k4 := hR.out.cell 4; have k5 := hR.out.cell 5; have z := hR.out.free; simp only [six0, List.getElem?_cons_zero, List.getElem?_cons_succ] at k0 k1 k2 k3 k4 k5
      go_wp2_with fail
      exact six_ret rfl rfl rfl (six hR.out rfl _ _ _ _ _ _) ⟨rfl, six_gr (gr_trans (gr_alloc (gr_refl _ _) _) hG.out) (Nat.le_refl _) _ _ _ _ _ _⟩
    · rw [if_neg h0, cl_is (show (1 : Int) ≠ 0 by decide)]
      have d0 : (n == 0) = false := by simpa using h0
      go_enter Tryz.func33, Tryz.ntmps33
      go_wp2_with fail
      refine (H7.out _).mono ?_
      rintro e w0 ⟨rfl, rfl⟩
      go_wp2_with fail
      refine (HL.out _).mono ?_
      rintro e w0 ⟨rfl, rfl⟩
      go_wp2_with fail
      refine (HB.out _ _ (by have hf := Row.fresh (w.alloc (.cells six0.toArray 23)) 3 (zv [12, 6, 5, 2, 11, 10, 4, 3, 0]); rw [World.size_alloc] at hf; exact hf)).mono ?_
      rintro e w0 ⟨rfl, rfl⟩
      go_wp2_with fail
      refine (H13.out _).mono ?_
      rintro e w0 ⟨rfl, rfl⟩
      go_wp2_with fail
      refine (HS.out _).mono ?_
      rintro e w1 ⟨rfl, hg1⟩
      go_wp2_with fail
      refine (HS.out _).mono ?_
      rintro e w2 ⟨rfl, hg2⟩
      go_wp2_with fail
      refine (rmake3_c _ _ _ _ _ _).mono ?_
      rintro e w3 ⟨rfl, hg3⟩
      have hG := Lib.hid (gr_trans ((gr_trans ((gr_trans ((gr_alloc (gr_refl (w.alloc (.cells six0.toArray 23)) none) _)) hg1)) hg2)) hg3)
      have hR := Lib.hid (HR.out.grown hG.out (by simp)); have k0 := hR.out.cell 0; have k1 := hR.out.cell 1; have k2 := hR.out.cell 2; have k3 := hR.out.cell 3; have k4 := hR.out.cell 4; have k5 := hR.out.cell 5; have z := hR.out.free; simp only [six0, List.getElem?_cons_zero, List.getElem?_cons_succ] at k0 k1 k2 k3 k4 k5
      go_wp2_with fail
      exact six_ret rfl rfl rfl (six hR.out rfl _ _ _ _ _ _) ⟨rfl, six_gr (gr_trans (gr_alloc (gr_refl _ _) _) hG.out) (Nat.le_refl _) _ _ _ _ _ _⟩
set_option maxRecDepth 100000 in
set_option maxHeartbeats 4000000 in
theorem one4 (h : Nat) (hh : h < 65536) (hf : F.get h 13 3 = 4) (w : World) :
    Calls Tryz.prog 33 #[.int .u32 h] w fun e w' => e = .returned (.agg (insn 2 (cl (form h 1 4)))) ∧ w.grownBy w' none := by
  have HR := Lib.hid (Row.fresh w 23 six0)
  have H7 := Lib.hid (fun W => rGet_n h 7 5 (by omega) (by decide) (by decide) W)
  have HL := Lib.hid (fun W => rGet_n h 7 3 (by omega) (by decide) (by decide) W)
  have HB := Lib.hid (fun W g hR => rsigned_c h 12 g [6, 5, 2, 11, 10, 4, 3, 0] hh (by decide) (by decide) (by decide) W hR)
  have H13 := Lib.hid (fun W => rGet_n h 13 3 (by omega) (by decide) (by decide) W)
  have b7 := get_lt h 7 5
  have bl := get_lt h 7 3
  rw [hf] at H13
  clear hf
  have HK := Lib.hid (fun W => reckons_c h hh W)
  rw [show form h 1 4 = vArithmetic h from rfl]
  generalize cl (vArithmetic h) = p at *
  obtain ⟨po, pd, p1, p2, pm⟩ := p
  generalize F.get h 7 5 = r at *
  generalize F.get h 7 3 = l at *
  generalize sgd h 12 [6, 5, 2, 11, 10, 4, 3, 0] = nb at *
  go_enter Tryz.func33, Tryz.ntmps33
  go_wp2_with fail
  refine (H7.out _).mono ?_
  rintro e w0 ⟨rfl, rfl⟩
  go_wp2_with fail
  refine (HL.out _).mono ?_
  rintro e w0 ⟨rfl, rfl⟩
  go_wp2_with fail
  refine (HB.out _ _ (by have hf := Row.fresh (w.alloc (.cells six0.toArray 23)) 3 (zv [12, 6, 5, 2, 11, 10, 4, 3, 0]); rw [World.size_alloc] at hf; exact hf)).mono ?_
  rintro e w0 ⟨rfl, rfl⟩
  go_wp2_with fail
  refine (H13.out _).mono ?_
  rintro e w0 ⟨rfl, rfl⟩
  go_wp2_with fail
  refine (HK.out _).mono ?_
  rintro e w1 ⟨rfl, hg1⟩
  simp only [insn]
  have hG := Lib.hid (gr_trans ((gr_alloc (gr_refl (w.alloc (.cells six0.toArray 23)) none) _)) hg1)
  have hR := Lib.hid (HR.out.grown hG.out (by simp)); have k0 := hR.out.cell 0; have k1 := hR.out.cell 1; have k2 := hR.out.cell 2; have k3 := hR.out.cell 3; have k4 := hR.out.cell 4; have k5 := hR.out.cell 5; have z := hR.out.free; simp only [six0, List.getElem?_cons_zero, List.getElem?_cons_succ] at k0 k1 k2 k3 k4 k5
  go_wp2_with fail
  exact six_ret rfl rfl rfl (six hR.out rfl _ _ _ _ _ _) ⟨rfl, six_gr (gr_trans (gr_alloc (gr_refl _ _) _) hG.out) (Nat.le_refl _) _ _ _ _ _ _⟩
set_option maxRecDepth 100000 in
set_option maxHeartbeats 4000000 in
theorem one5 (h : Nat) (hh : h < 65536) (hf : F.get h 13 3 = 5) (w : World) :
    Calls Tryz.prog 33 #[.int .u32 h] w fun e w' => e = .returned (.agg (insn 2 (cl (form h 1 5)))) ∧ w.grownBy w' none := by
  have HR := Lib.hid (Row.fresh w 23 six0)
  have H7 := Lib.hid (fun W => rGet_n h 7 5 (by omega) (by decide) (by decide) W)
  have HL := Lib.hid (fun W => rGet_n h 7 3 (by omega) (by decide) (by decide) W)
  have HB := Lib.hid (fun W g hR => rsigned_c h 12 g [6, 5, 2, 11, 10, 4, 3, 0] hh (by decide) (by decide) (by decide) W hR)
  have H13 := Lib.hid (fun W => rGet_n h 13 3 (by omega) (by decide) (by decide) W)
  have b7 := get_lt h 7 5
  have bl := get_lt h 7 3
  rw [hf] at H13
  clear hf
  have HJ := Lib.hid (fun W g hR => rsigned_c h 12 g [8, 10, 9, 6, 7, 2, 11, 5, 4, 3, 0] hh (by decide) (by decide) (by decide) W hR)
  rw [show cl (form h 1 5) = (3, 0, 0, 0, sgd h 12 [8, 10, 9, 6, 7, 2, 11, 5, 4, 3, 0]) from rfl]
  generalize F.get h 7 5 = r at *
  generalize F.get h 7 3 = l at *
  generalize sgd h 12 [6, 5, 2, 11, 10, 4, 3, 0] = nb at *
  generalize sgd h 12 [8, 10, 9, 6, 7, 2, 11, 5, 4, 3, 0] = m at *
  go_enter Tryz.func33, Tryz.ntmps33
  go_wp2_with fail
  refine (H7.out _).mono ?_
  rintro e w0 ⟨rfl, rfl⟩
  go_wp2_with fail
  refine (HL.out _).mono ?_
  rintro e w0 ⟨rfl, rfl⟩
  go_wp2_with fail
  refine (HB.out _ _ (by have hf := Row.fresh (w.alloc (.cells six0.toArray 23)) 3 (zv [12, 6, 5, 2, 11, 10, 4, 3, 0]); rw [World.size_alloc] at hf; exact hf)).mono ?_
  rintro e w0 ⟨rfl, rfl⟩
  go_wp2_with fail
  refine (H13.out _).mono ?_
  rintro e w0 ⟨rfl, rfl⟩
  go_wp2_with fail
  refine (HJ.out _ _ (by have hf := Row.fresh ((w.alloc (.cells six0.toArray 23)).alloc (.cells (zv [12, 6, 5, 2, 11, 10, 4, 3, 0]).toArray 3)) 3 (zv [12, 8, 10, 9, 6, 7, 2, 11, 5, 4, 3, 0]); rw [World.size_alloc, World.size_alloc] at hf; exact hf)).mono ?_
  rintro e w0 ⟨rfl, rfl⟩
  go_wp2_with fail
  refine (rmake3_c _ _ _ _ _ _).mono ?_
  rintro e w1 ⟨rfl, hg1⟩
  have hG := Lib.hid (gr_trans ((gr_alloc ((gr_alloc (gr_refl (w.alloc (.cells six0.toArray 23)) none) _)) _)) hg1)
  have hR := Lib.hid (HR.out.grown hG.out (by simp)); have k0 := hR.out.cell 0; have k1 := hR.out.cell 1; have k2 := hR.out.cell 2; have k3 := hR.out.cell 3; have k4 := hR.out.cell 4; have k5 := hR.out.cell 5; have z := hR.out.free; simp only [six0, List.getElem?_cons_zero, List.getElem?_cons_succ] at k0 k1 k2 k3 k4 k5
  go_wp2_with fail
  exact six_ret rfl rfl rfl (six hR.out rfl _ _ _ _ _ _) ⟨rfl, six_gr (gr_trans (gr_alloc (gr_refl _ _) _) hG.out) (Nat.le_refl _) _ _ _ _ _ _⟩
set_option maxRecDepth 100000 in
set_option maxHeartbeats 4000000 in
theorem one6 (h : Nat) (hh : h < 65536) (hf : F.get h 13 3 = 6) (w : World) :
    Calls Tryz.prog 33 #[.int .u32 h] w fun e w' => e = .returned (.agg (insn 2 (cl (form h 1 6)))) ∧ w.grownBy w' none := by
  have HR := Lib.hid (Row.fresh w 23 six0)
  have H7 := Lib.hid (fun W => rGet_n h 7 5 (by omega) (by decide) (by decide) W)
  have HL := Lib.hid (fun W => rGet_n h 7 3 (by omega) (by decide) (by decide) W)
  have HB := Lib.hid (fun W g hR => rsigned_c h 12 g [6, 5, 2, 11, 10, 4, 3, 0] hh (by decide) (by decide) (by decide) W hR)
  have H13 := Lib.hid (fun W => rGet_n h 13 3 (by omega) (by decide) (by decide) W)
  have b7 := get_lt h 7 5
  have bl := get_lt h 7 3
  rw [hf] at H13
  clear hf
  rw [show cl (form h 1 6) = (5, 0, ((F.get h 7 3 + 8 : Nat) : Int), 0, sgd h 12 [6, 5, 2, 11, 10, 4, 3, 0]) from rfl]
  generalize F.get h 7 5 = r at *
  generalize F.get h 7 3 = l at *
  generalize sgd h 12 [6, 5, 2, 11, 10, 4, 3, 0] = nb at *
  go_enter Tryz.func33, Tryz.ntmps33
  go_wp2_with fail
  refine (H7.out _).mono ?_
  rintro e w0 ⟨rfl, rfl⟩
  go_wp2_with fail
  refine (HL.out _).mono ?_
  rintro e w0 ⟨rfl, rfl⟩
  go_wp2_with fail
  refine (HB.out _ _ (by have hf := Row.fresh (w.alloc (.cells six0.toArray 23)) 3 (zv [12, 6, 5, 2, 11, 10, 4, 3, 0]); rw [World.size_alloc] at hf; exact hf)).mono ?_
  rintro e w0 ⟨rfl, rfl⟩
  go_wp2_with fail
  refine (H13.out _).mono ?_
  rintro e w0 ⟨rfl, rfl⟩
  go_wp2_with fail
  refine (rmake3_c _ _ _ _ _ _).mono ?_
  rintro e w1 ⟨rfl, hg1⟩
  have hG := Lib.hid (gr_trans ((gr_alloc (gr_refl (w.alloc (.cells six0.toArray 23)) none) _)) hg1)
  have hR := Lib.hid (HR.out.grown hG.out (by simp)); have k0 := hR.out.cell 0; have k1 := hR.out.cell 1; have k2 := hR.out.cell 2; have k3 := hR.out.cell 3; have k4 := hR.out.cell 4; have k5 := hR.out.cell 5; have z := hR.out.free; simp only [six0, List.getElem?_cons_zero, List.getElem?_cons_succ] at k0 k1 k2 k3 k4 k5
  go_wp2_with fail
  exact six_ret rfl rfl rfl (six hR.out rfl _ _ _ _ _ _) ⟨rfl, six_gr (gr_trans (gr_alloc (gr_refl _ _) _) hG.out) (Nat.le_refl _) _ _ _ _ _ _⟩
set_option maxRecDepth 100000 in
set_option maxHeartbeats 4000000 in
theorem one7 (h : Nat) (hh : h < 65536) (hf : F.get h 13 3 = 7) (w : World) :
    Calls Tryz.prog 33 #[.int .u32 h] w fun e w' => e = .returned (.agg (insn 2 (cl (form h 1 7)))) ∧ w.grownBy w' none := by
  have HR := Lib.hid (Row.fresh w 23 six0)
  have H7 := Lib.hid (fun W => rGet_n h 7 5 (by omega) (by decide) (by decide) W)
  have HL := Lib.hid (fun W => rGet_n h 7 3 (by omega) (by decide) (by decide) W)
  have HB := Lib.hid (fun W g hR => rsigned_c h 12 g [6, 5, 2, 11, 10, 4, 3, 0] hh (by decide) (by decide) (by decide) W hR)
  have H13 := Lib.hid (fun W => rGet_n h 13 3 (by omega) (by decide) (by decide) W)
  have b7 := get_lt h 7 5
  have bl := get_lt h 7 3
  rw [hf] at H13
  clear hf
  rw [show cl (form h 1 7) = (6, 0, ((F.get h 7 3 + 8 : Nat) : Int), 0, sgd h 12 [6, 5, 2, 11, 10, 4, 3, 0]) from rfl]
  generalize F.get h 7 5 = r at *
  generalize F.get h 7 3 = l at *
  generalize sgd h 12 [6, 5, 2, 11, 10, 4, 3, 0] = nb at *
  go_enter Tryz.func33, Tryz.ntmps33
  go_wp2_with fail
  refine (H7.out _).mono ?_
  rintro e w0 ⟨rfl, rfl⟩
  go_wp2_with fail
  refine (HL.out _).mono ?_
  rintro e w0 ⟨rfl, rfl⟩
  go_wp2_with fail
  refine (HB.out _ _ (by have hf := Row.fresh (w.alloc (.cells six0.toArray 23)) 3 (zv [12, 6, 5, 2, 11, 10, 4, 3, 0]); rw [World.size_alloc] at hf; exact hf)).mono ?_
  rintro e w0 ⟨rfl, rfl⟩
  go_wp2_with fail
  refine (H13.out _).mono ?_
  rintro e w0 ⟨rfl, rfl⟩
  go_wp2_with fail
  refine (rmake3_c _ _ _ _ _ _).mono ?_
  rintro e w1 ⟨rfl, hg1⟩
  have hG := Lib.hid (gr_trans ((gr_alloc (gr_refl (w.alloc (.cells six0.toArray 23)) none) _)) hg1)
  have hR := Lib.hid (HR.out.grown hG.out (by simp)); have k0 := hR.out.cell 0; have k1 := hR.out.cell 1; have k2 := hR.out.cell 2; have k3 := hR.out.cell 3; have k4 := hR.out.cell 4; have k5 := hR.out.cell 5; have z := hR.out.free; simp only [six0, List.getElem?_cons_zero, List.getElem?_cons_succ] at k0 k1 k2 k3 k4 k5
  go_wp2_with fail
  exact six_ret rfl rfl rfl (six hR.out rfl _ _ _ _ _ _) ⟨rfl, six_gr (gr_trans (gr_alloc (gr_refl _ _) _) hG.out) (Nat.le_refl _) _ _ _ _ _ _⟩
end Go.Proofs.YtpbeamnogfjagaaGreatDoor.refHalf
