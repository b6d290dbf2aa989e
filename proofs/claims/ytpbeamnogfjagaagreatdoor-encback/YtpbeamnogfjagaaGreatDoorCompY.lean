/-
  What the document's own reckoning halves (package suzerainref05: reckons) are: contracts over the translation, by the program's plain functions.
  Conditions: the argument is a half.
-/
import Derived.Test.YtpbeamnogfjagaaGreatDoorCompZ
namespace Go.Proofs.YtpbeamnogfjagaaGreatDoor.refHalf
open Go Go.RowKit F W M D
set_option linter.unusedVariables false
set_option maxRecDepth 100000

set_option maxRecDepth 100000 in
set_option maxHeartbeats 4000000 in
theorem reckons0 (h : Nat) (hh : h < 65536) (hf : F.get h 10 2 = 0) (w : World) :
    Calls Tryz.prog 59 #[.int .u32 h] w fun e w' => e = .returned (.agg (insn 2 (cl (vArithmetic h)))) ∧ w.grownBy w' none := by
  have HR := Lib.hid (Row.fresh w 23 six0)
  have H7 := Lib.hid (fun W => rGet_n h 7 3 (by omega) (by decide) (by decide) W)
  have H2 := Lib.hid (fun W => rGet_n h 2 3 (by omega) (by decide) (by decide) W)
  have H5 := Lib.hid (fun W => rGet_n h 5 2 (by omega) (by decide) (by decide) W)
  have H10 := Lib.hid (fun W => rGet_n h 10 2 (by omega) (by decide) (by decide) W)
  have b7 := get_lt h 7 3
  have b2 := get_lt h 2 3
  have b5 := get_lt h 5 2
  have e : vArithmetic h = (29, ((F.get h 7 3 + 8 : Nat) : Int), ((F.get h 7 3 + 8 : Nat) : Int), 0, D.shiftV h) := by unfold vArithmetic; rw [if_pos hf]; rfl
  rw [e, cl_is (show (29 : Int) ≠ 0 by decide)]
  clear e
  rw [hf] at H10
  clear hf
  have HS := Lib.hid (fun W => rshift_c h hh W)
  generalize D.shiftV h = n at *
  generalize F.get h 7 3 = r at *
  generalize F.get h 2 3 = s at *
  generalize F.get h 5 2 = c at *
  go_enter Tryz.func59, Tryz.ntmps59
  go_wp2_with fail
  refine (H7.out _).mono ?_
  rintro e w0 ⟨rfl, rfl⟩
  go_wp2_with fail
  refine (H2.out _).mono ?_
  rintro e w0 ⟨rfl, rfl⟩
  go_wp2_with fail
  refine (H5.out _).mono ?_
  rintro e w0 ⟨rfl, rfl⟩
  go_wp2_with fail
  refine (H10.out _).mono ?_
  rintro e w0 ⟨rfl, rfl⟩
  go_wp2_with fail
  refine (HS.out _).mono ?_
  rintro e w1 ⟨rfl, hg1⟩
  go_wp2_with fail
  refine (rmake3_c _ _ _ _ _ _).mono ?_
  rintro e w2 ⟨rfl, hg2⟩
  have hG := Lib.hid (gr_trans ((gr_trans (gr_refl (w.alloc (.cells six0.toArray 23)) none) hg1)) hg2)
  have hR := Lib.hid (HR.out.grown hG.out (by simp)); have k0 := hR.out.cell 0; have k1 := hR.out.cell 1; have k2 := hR.out.cell 2; have k3 := hR.out.cell 3; have k4 := hR.out.cell 4; have k5 := hR.out.cell 5; have z := hR.out.free; simp only [six0, List.getElem?_cons_zero, List.getElem?_cons_succ] at k0 k1 k2 k3 k4 k5
  go_wp2_with fail
  exact six_ret rfl rfl rfl (six hR.out rfl _ _ _ _ _ _) ⟨rfl, six_gr (gr_trans (gr_alloc (gr_refl _ _) _) hG.out) (Nat.le_refl _) _ _ _ _ _ _⟩
set_option maxRecDepth 100000 in
set_option maxHeartbeats 4000000 in
theorem reckons1 (h : Nat) (hh : h < 65536) (hf : F.get h 10 2 = 1) (w : World) :
    Calls Tryz.prog 59 #[.int .u32 h] w fun e w' => e = .returned (.agg (insn 2 (cl (vArithmetic h)))) ∧ w.grownBy w' none := by
  have HR := Lib.hid (Row.fresh w 23 six0)
  have H7 := Lib.hid (fun W => rGet_n h 7 3 (by omega) (by decide) (by decide) W)
  have H2 := Lib.hid (fun W => rGet_n h 2 3 (by omega) (by decide) (by decide) W)
  have H5 := Lib.hid (fun W => rGet_n h 5 2 (by omega) (by decide) (by decide) W)
  have H10 := Lib.hid (fun W => rGet_n h 10 2 (by omega) (by decide) (by decide) W)
  have b7 := get_lt h 7 3
  have b2 := get_lt h 2 3
  have b5 := get_lt h 5 2
  have e : vArithmetic h = (30, ((F.get h 7 3 + 8 : Nat) : Int), ((F.get h 7 3 + 8 : Nat) : Int), 0, D.shiftV h) := by unfold vArithmetic; rw [if_neg (by omega), if_pos hf]; rfl
  rw [e, cl_is (show (30 : Int) ≠ 0 by decide)]
  clear e
  rw [hf] at H10
  clear hf
  have HS := Lib.hid (fun W => rshift_c h hh W)
  generalize D.shiftV h = n at *
  generalize F.get h 7 3 = r at *
  generalize F.get h 2 3 = s at *
  generalize F.get h 5 2 = c at *
  go_enter Tryz.func59, Tryz.ntmps59
  go_wp2_with fail
  refine (H7.out _).mono ?_
  rintro e w0 ⟨rfl, rfl⟩
  go_wp2_with fail
  refine (H2.out _).mono ?_
  rintro e w0 ⟨rfl, rfl⟩
  go_wp2_with fail
  refine (H5.out _).mono ?_
  rintro e w0 ⟨rfl, rfl⟩
  go_wp2_with fail
  refine (H10.out _).mono ?_
  rintro e w0 ⟨rfl, rfl⟩
  go_wp2_with fail
  refine (HS.out _).mono ?_
  rintro e w1 ⟨rfl, hg1⟩
  go_wp2_with fail
  refine (rmake3_c _ _ _ _ _ _).mono ?_
  rintro e w2 ⟨rfl, hg2⟩
  have hG := Lib.hid (gr_trans ((gr_trans (gr_refl (w.alloc (.cells six0.toArray 23)) none) hg1)) hg2)
  have hR := Lib.hid (HR.out.grown hG.out (by simp)); have k0 := hR.out.cell 0; have k1 := hR.out.cell 1; have k2 := hR.out.cell 2; have k3 := hR.out.cell 3; have k4 := hR.out.cell 4; have k5 := hR.out.cell 5; have z := hR.out.free; simp only [six0, List.getElem?_cons_zero, List.getElem?_cons_succ] at k0 k1 k2 k3 k4 k5
  go_wp2_with fail
  exact six_ret rfl rfl rfl (six hR.out rfl _ _ _ _ _ _) ⟨rfl, six_gr (gr_trans (gr_alloc (gr_refl _ _) _) hG.out) (Nat.le_refl _) _ _ _ _ _ _⟩
set_option maxRecDepth 100000 in
set_option maxHeartbeats 4000000 in
theorem reckons2 (h : Nat) (hh : h < 65536) (hf : F.get h 10 2 = 2) (w : World) :
    Calls Tryz.prog 59 #[.int .u32 h] w fun e w' => e = .returned (.agg (insn 2 (cl (vArithmetic h)))) ∧ w.grownBy w' none := by
  have HR := Lib.hid (Row.fresh w 23 six0)
  have H7 := Lib.hid (fun W => rGet_n h 7 3 (by omega) (by decide) (by decide) W)
  have H2 := Lib.hid (fun W => rGet_n h 2 3 (by omega) (by decide) (by decide) W)
  have H5 := Lib.hid (fun W => rGet_n h 5 2 (by omega) (by decide) (by decide) W)
  have H10 := Lib.hid (fun W => rGet_n h 10 2 (by omega) (by decide) (by decide) W)
  have b7 := get_lt h 7 3
  have b2 := get_lt h 2 3
  have b5 := get_lt h 5 2
  have e : vArithmetic h = (27, ((F.get h 7 3 + 8 : Nat) : Int), ((F.get h 7 3 + 8 : Nat) : Int), 0, smallV h) := by unfold vArithmetic; rw [if_neg (by omega), if_neg (by omega), if_pos hf]; rfl
  rw [e, cl_is (show (27 : Int) ≠ 0 by decide)]
  clear e
  rw [hf] at H10
  clear hf
  have HS := Lib.hid (fun W => rsmall_c h hh W)
  generalize smallV h = n at *
  generalize F.get h 7 3 = r at *
  generalize F.get h 2 3 = s at *
  generalize F.get h 5 2 = c at *
  go_enter Tryz.func59, Tryz.ntmps59
  go_wp2_with fail
  refine (H7.out _).mono ?_
  rintro e w0 ⟨rfl, rfl⟩
  go_wp2_with fail
  refine (H2.out _).mono ?_
  rintro e w0 ⟨rfl, rfl⟩
  go_wp2_with fail
  refine (H5.out _).mono ?_
  rintro e w0 ⟨rfl, rfl⟩
  go_wp2_with fail
  refine (H10.out _).mono ?_
  rintro e w0 ⟨rfl, rfl⟩
  go_wp2_with fail
  refine (HS.out _).mono ?_
  rintro e w1 ⟨rfl, hg1⟩
  go_wp2_with fail
  refine (rmake3_c _ _ _ _ _ _).mono ?_
  rintro e w2 ⟨rfl, hg2⟩
  have hG := Lib.hid (gr_trans ((gr_trans (gr_refl (w.alloc (.cells six0.toArray 23)) none) hg1)) hg2)
  have hR := Lib.hid (HR.out.grown hG.out (by simp)); have k0 := hR.out.cell 0; have k1 := hR.out.cell 1; have k2 := hR.out.cell 2; have k3 := hR.out.cell 3; have k4 := hR.out.cell 4; have k5 := hR.out.cell 5; have z := hR.out.free; simp only [six0, List.getElem?_cons_zero, List.getElem?_cons_succ] at k0 k1 k2 k3 k4 k5
  go_wp2_with fail
  exact six_ret rfl rfl rfl (six hR.out rfl _ _ _ _ _ _) ⟨rfl, six_gr (gr_trans (gr_alloc (gr_refl _ _) _) hG.out) (Nat.le_refl _) _ _ _ _ _ _⟩
set_option maxRecDepth 100000 in
set_option maxHeartbeats 4000000 in
theorem reckons300 (h : Nat) (hh : h < 65536) (hf : F.get h 10 2 = 3) (hb : F.get h 12 1 = 0) (hc : F.get h 5 2 = 0) (w : World) :
    Calls Tryz.prog 59 #[.int .u32 h] w fun e w' => e = .returned (.agg (insn 2 (cl (vArithmetic h)))) ∧ w.grownBy w' none := by
  have HR := Lib.hid (Row.fresh w 23 six0)
  have H7 := Lib.hid (fun W => rGet_n h 7 3 (by omega) (by decide) (by decide) W)
  have H2 := Lib.hid (fun W => rGet_n h 2 3 (by omega) (by decide) (by decide) W)
  have H5 := Lib.hid (fun W => rGet_n h 5 2 (by omega) (by decide) (by decide) W)
  have H10 := Lib.hid (fun W => rGet_n h 10 2 (by omega) (by decide) (by decide) W)
  have b7 := get_lt h 7 3
  have b2 := get_lt h 2 3
  have H12 := Lib.hid (fun W => rGet_n h 12 1 (by omega) (by decide) (by decide) W)
  have e : vArithmetic h = (32, ((F.get h 7 3 + 8 : Nat) : Int), ((F.get h 7 3 + 8 : Nat) : Int), ((F.get h 2 3 + 8 : Nat) : Int), 0) := by unfold vArithmetic; rw [if_neg (by omega), if_neg (by omega), if_neg (by omega), hb, hc]; rfl
  rw [e, cl_is (show (32 : Int) ≠ 0 by decide)]
  clear e
  rw [hf] at H10
  rw [hb] at H12
  rw [hc] at H5
  clear hf hb hc
  generalize F.get h 7 3 = r at *
  generalize F.get h 2 3 = s at *
  go_enter Tryz.func59, Tryz.ntmps59
  go_wp2_with fail
  refine (H7.out _).mono ?_
  rintro e w0 ⟨rfl, rfl⟩
  go_wp2_with fail
  refine (H2.out _).mono ?_
  rintro e w0 ⟨rfl, rfl⟩
  go_wp2_with fail
  refine (H5.out _).mono ?_
  rintro e w0 ⟨rfl, rfl⟩
  go_wp2_with fail
  refine (H10.out _).mono ?_
  rintro e w0 ⟨rfl, rfl⟩
  go_wp2_with fail
  refine (H12.out _).mono ?_
  rintro e w0 ⟨rfl, rfl⟩
  go_wp2_with fail
  refine (rmake3_c _ _ _ _ _ _).mono ?_
  rintro e w1 ⟨rfl, hg1⟩
  have hG := Lib.hid (gr_trans ((gr_alloc (gr_refl (w.alloc (.cells six0.toArray 23)) none) _)) hg1)
  have hR := Lib.hid (HR.out.grown hG.out (by simp)); have k0 := hR.out.cell 0; have k1 := hR.out.cell 1; have k2 := hR.out.cell 2; have k3 := hR.out.cell 3; have k4 := hR.out.cell 4; have k5 := hR.out.cell 5; have z := hR.out.free; simp only [six0, List.getElem?_cons_zero, List.getElem?_cons_succ] at k0 k1 k2 k3 k4 k5
  go_wp2_with fail
  exact six_ret rfl rfl rfl (six hR.out rfl _ _ _ _ _ _) ⟨rfl, six_gr (gr_trans (gr_alloc (gr_refl _ _) _) hG.out) (Nat.le_refl _) _ _ _ _ _ _⟩
set_option maxRecDepth 100000 in
set_option maxHeartbeats 4000000 in
theorem reckons301 (h : Nat) (hh : h < 65536) (hf : F.get h 10 2 = 3) (hb : F.get h 12 1 = 0) (hc : F.get h 5 2 = 1) (w : World) :
    Calls Tryz.prog 59 #[.int .u32 h] w fun e w' => e = .returned (.agg (insn 2 (cl (vArithmetic h)))) ∧ w.grownBy w' none := by
  have HR := Lib.hid (Row.fresh w 23 six0)
  have H7 := Lib.hid (fun W => rGet_n h 7 3 (by omega) (by decide) (by decide) W)
  have H2 := Lib.hid (fun W => rGet_n h 2 3 (by omega) (by decide) (by decide) W)
  have H5 := Lib.hid (fun W => rGet_n h 5 2 (by omega) (by decide) (by decide) W)
  have H10 := Lib.hid (fun W => rGet_n h 10 2 (by omega) (by decide) (by decide) W)
  have b7 := get_lt h 7 3
  have b2 := get_lt h 2 3
  have H12 := Lib.hid (fun W => rGet_n h 12 1 (by omega) (by decide) (by decide) W)
  have e : vArithmetic h = (36, ((F.get h 7 3 + 8 : Nat) : Int), ((F.get h 7 3 + 8 : Nat) : Int), ((F.get h 2 3 + 8 : Nat) : Int), 0) := by unfold vArithmetic; rw [if_neg (by omega), if_neg (by omega), if_neg (by omega), hb, hc]; rfl
  rw [e, cl_is (show (36 : Int) ≠ 0 by decide)]
  clear e
  rw [hf] at H10
  rw [hb] at H12
  rw [hc] at H5
  clear hf hb hc
  generalize F.get h 7 3 = r at *
  generalize F.get h 2 3 = s at *
  go_enter Tryz.func59, Tryz.ntmps59
  go_wp2_with fail
  refine (H7.out _).mono ?_
  rintro e w0 ⟨rfl, rfl⟩
  go_wp2_with fail
  refine (H2.out _).mono ?_
  rintro e w0 ⟨rfl, rfl⟩
  go_wp2_with fail
  refine (H5.out _).mono ?_
  rintro e w0 ⟨rfl, rfl⟩
  go_wp2_with fail
  refine (H10.out _).mono ?_
  rintro e w0 ⟨rfl, rfl⟩
  go_wp2_with fail
  refine (H12.out _).mono ?_
  rintro e w0 ⟨rfl, rfl⟩
  go_wp2_with fail
  refine (rmake3_c _ _ _ _ _ _).mono ?_
  rintro e w1 ⟨rfl, hg1⟩
  have hG := Lib.hid (gr_trans ((gr_alloc (gr_refl (w.alloc (.cells six0.toArray 23)) none) _)) hg1)
  have hR := Lib.hid (HR.out.grown hG.out (by simp)); have k0 := hR.out.cell 0; have k1 := hR.out.cell 1; have k2 := hR.out.cell 2; have k3 := hR.out.cell 3; have k4 := hR.out.cell 4; have k5 := hR.out.cell 5; have z := hR.out.free; simp only [six0, List.getElem?_cons_zero, List.getElem?_cons_succ] at k0 k1 k2 k3 k4 k5
  go_wp2_with fail
  exact six_ret rfl rfl rfl (six hR.out rfl _ _ _ _ _ _) ⟨rfl, six_gr (gr_trans (gr_alloc (gr_refl _ _) _) hG.out) (Nat.le_refl _) _ _ _ _ _ _⟩
set_option maxRecDepth 100000 in
set_option maxHeartbeats 4000000 in
theorem reckons302 (h : Nat) (hh : h < 65536) (hf : F.get h 10 2 = 3) (hb : F.get h 12 1 = 0) (hc : F.get h 5 2 = 2) (w : World) :
    Calls Tryz.prog 59 #[.int .u32 h] w fun e w' => e = .returned (.agg (insn 2 (cl (vArithmetic h)))) ∧ w.grownBy w' none := by
  have HR := Lib.hid (Row.fresh w 23 six0)
  have H7 := Lib.hid (fun W => rGet_n h 7 3 (by omega) (by decide) (by decide) W)
  have H2 := Lib.hid (fun W => rGet_n h 2 3 (by omega) (by decide) (by decide) W)
  have H5 := Lib.hid (fun W => rGet_n h 5 2 (by omega) (by decide) (by decide) W)
  have H10 := Lib.hid (fun W => rGet_n h 10 2 (by omega) (by decide) (by decide) W)
  have b7 := get_lt h 7 3
  have b2 := get_lt h 2 3
  have H12 := Lib.hid (fun W => rGet_n h 12 1 (by omega) (by decide) (by decide) W)
  have e : vArithmetic h = (39, ((F.get h 7 3 + 8 : Nat) : Int), ((F.get h 7 3 + 8 : Nat) : Int), ((F.get h 2 3 + 8 : Nat) : Int), 0) := by unfold vArithmetic; rw [if_neg (by omega), if_neg (by omega), if_neg (by omega), hb, hc]; rfl
  rw [e, cl_is (show (39 : Int) ≠ 0 by decide)]
  clear e
  rw [hf] at H10
  rw [hb] at H12
  rw [hc] at H5
  clear hf hb hc
  generalize F.get h 7 3 = r at *
  generalize F.get h 2 3 = s at *
  go_enter Tryz.func59, Tryz.ntmps59
  go_wp2_with fail
  refine (H7.out _).mono ?_
  rintro e w0 ⟨rfl, rfl⟩
  go_wp2_with fail
  refine (H2.out _).mono ?_
  rintro e w0 ⟨rfl, rfl⟩
  go_wp2_with fail
  refine (H5.out _).mono ?_
  rintro e w0 ⟨rfl, rfl⟩
  go_wp2_with fail
  refine (H10.out _).mono ?_
  rintro e w0 ⟨rfl, rfl⟩
  go_wp2_with fail
  refine (H12.out _).mono ?_
  rintro e w0 ⟨rfl, rfl⟩
  go_wp2_with fail
  refine (rmake3_c _ _ _ _ _ _).mono ?_
  rintro e w1 ⟨rfl, hg1⟩
  have hG := Lib.hid (gr_trans ((gr_alloc (gr_refl (w.alloc (.cells six0.toArray 23)) none) _)) hg1)
  have hR := Lib.hid (HR.out.grown hG.out (by simp)); have k0 := hR.out.cell 0; have k1 := hR.out.cell 1; have k2 := hR.out.cell 2; have k3 := hR.out.cell 3; have k4 := hR.out.cell 4; have k5 := hR.out.cell 5; have z := hR.out.free; simp only [six0, List.getElem?_cons_zero, List.getElem?_cons_succ] at k0 k1 k2 k3 k4 k5
  go_wp2_with fail
  exact six_ret rfl rfl rfl (six hR.out rfl _ _ _ _ _ _) ⟨rfl, six_gr (gr_trans (gr_alloc (gr_refl _ _) _) hG.out) (Nat.le_refl _) _ _ _ _ _ _⟩
set_option maxRecDepth 100000 in
set_option maxHeartbeats 4000000 in
theorem reckons303 (h : Nat) (hh : h < 65536) (hf : F.get h 10 2 = 3) (hb : F.get h 12 1 = 0) (hc : F.get h 5 2 = 3) (w : World) :
    Calls Tryz.prog 59 #[.int .u32 h] w fun e w' => e = .returned (.agg (insn 2 (cl (vArithmetic h)))) ∧ w.grownBy w' none := by
  have HR := Lib.hid (Row.fresh w 23 six0)
  have H7 := Lib.hid (fun W => rGet_n h 7 3 (by omega) (by decide) (by decide) W)
  have H2 := Lib.hid (fun W => rGet_n h 2 3 (by omega) (by decide) (by decide) W)
  have H5 := Lib.hid (fun W => rGet_n h 5 2 (by omega) (by decide) (by decide) W)
  have H10 := Lib.hid (fun W => rGet_n h 10 2 (by omega) (by decide) (by decide) W)
  have b7 := get_lt h 7 3
  have b2 := get_lt h 2 3
  have H12 := Lib.hid (fun W => rGet_n h 12 1 (by omega) (by decide) (by decide) W)
  have e : vArithmetic h = (40, ((F.get h 7 3 + 8 : Nat) : Int), ((F.get h 7 3 + 8 : Nat) : Int), ((F.get h 2 3 + 8 : Nat) : Int), 0) := by unfold vArithmetic; rw [if_neg (by omega), if_neg (by omega), if_neg (by omega), hb, hc]; rfl
  rw [e, cl_is (show (40 : Int) ≠ 0 by decide)]
  clear e
  rw [hf] at H10
  rw [hb] at H12
  rw [hc] at H5
  clear hf hb hc
  generalize F.get h 7 3 = r at *
  generalize F.get h 2 3 = s at *
  go_enter Tryz.func59, Tryz.ntmps59
  go_wp2_with fail
  refine (H7.out _).mono ?_
  rintro e w0 ⟨rfl, rfl⟩
  go_wp2_with fail
  refine (H2.out _).mono ?_
  rintro e w0 ⟨rfl, rfl⟩
  go_wp2_with fail
  refine (H5.out _).mono ?_
  rintro e w0 ⟨rfl, rfl⟩
  go_wp2_with fail
  refine (H10.out _).mono ?_
  rintro e w0 ⟨rfl, rfl⟩
  go_wp2_with fail
  refine (H12.out _).mono ?_
  rintro e w0 ⟨rfl, rfl⟩
  go_wp2_with fail
  refine (rmake3_c _ _ _ _ _ _).mono ?_
  rintro e w1 ⟨rfl, hg1⟩
  have hG := Lib.hid (gr_trans ((gr_alloc (gr_refl (w.alloc (.cells six0.toArray 23)) none) _)) hg1)
  have hR := Lib.hid (HR.out.grown hG.out (by simp)); have k0 := hR.out.cell 0; have k1 := hR.out.cell 1; have k2 := hR.out.cell 2; have k3 := hR.out.cell 3; have k4 := hR.out.cell 4; have k5 := hR.out.cell 5; have z := hR.out.free; simp only [six0, List.getElem?_cons_zero, List.getElem?_cons_succ] at k0 k1 k2 k3 k4 k5
  go_wp2_with fail
  exact six_ret rfl rfl rfl (six hR.out rfl _ _ _ _ _ _) ⟨rfl, six_gr (gr_trans (gr_alloc (gr_refl _ _) _) hG.out) (Nat.le_refl _) _ _ _ _ _ _⟩
set_option maxRecDepth 100000 in
set_option maxHeartbeats 4000000 in
theorem reckons310 (h : Nat) (hh : h < 65536) (hf : F.get h 10 2 = 3) (hb : F.get h 12 1 = 1) (hc : F.get h 5 2 = 0) (w : World) :
    Calls Tryz.prog 59 #[.int .u32 h] w fun e w' => e = .returned (.agg (insn 2 (cl (vArithmetic h)))) ∧ w.grownBy w' none := by
  have HR := Lib.hid (Row.fresh w 23 six0)
  have H7 := Lib.hid (fun W => rGet_n h 7 3 (by omega) (by decide) (by decide) W)
  have H2 := Lib.hid (fun W => rGet_n h 2 3 (by omega) (by decide) (by decide) W)
  have H5 := Lib.hid (fun W => rGet_n h 5 2 (by omega) (by decide) (by decide) W)
  have H10 := Lib.hid (fun W => rGet_n h 10 2 (by omega) (by decide) (by decide) W)
  have b7 := get_lt h 7 3
  have b2 := get_lt h 2 3
  have H12 := Lib.hid (fun W => rGet_n h 12 1 (by omega) (by decide) (by decide) W)
  have e : vArithmetic h = (46, ((F.get h 7 3 + 8 : Nat) : Int), ((F.get h 7 3 + 8 : Nat) : Int), ((F.get h 2 3 + 8 : Nat) : Int), 0) := by unfold vArithmetic; rw [if_neg (by omega), if_neg (by omega), if_neg (by omega), hb, hc]; rfl
  rw [e, cl_is (show (46 : Int) ≠ 0 by decide)]
  clear e
  rw [hf] at H10
  rw [hb] at H12
  rw [hc] at H5
  clear hf hb hc
  generalize F.get h 7 3 = r at *
  generalize F.get h 2 3 = s at *
  go_enter Tryz.func59, Tryz.ntmps59
  go_wp2_with fail
  refine (H7.out _).mono ?_
  rintro e w0 ⟨rfl, rfl⟩
  go_wp2_with fail
  refine (H2.out _).mono ?_
  rintro e w0 ⟨rfl, rfl⟩
  go_wp2_with fail
  refine (H5.out _).mono ?_
  rintro e w0 ⟨rfl, rfl⟩
  go_wp2_with fail
  refine (H10.out _).mono ?_
  rintro e w0 ⟨rfl, rfl⟩
  go_wp2_with fail
  refine (H12.out _).mono ?_
  rintro e w0 ⟨rfl, rfl⟩
  go_wp2_with fail
  refine (rmake3_c _ _ _ _ _ _).mono ?_
  rintro e w1 ⟨rfl, hg1⟩
  have hG := Lib.hid (gr_trans ((gr_alloc ((gr_alloc (gr_refl (w.alloc (.cells six0.toArray 23)) none) _)) _)) hg1)
  have hR := Lib.hid (HR.out.grown hG.out (by simp)); have k0 := hR.out.cell 0; have k1 := hR.out.cell 1; have k2 := hR.out.cell 2; have k3 := hR.out.cell 3; have k4 := hR.out.cell 4; have k5 := hR.out.cell 5; have z := hR.out.free; simp only [six0, List.getElem?_cons_zero, List.getElem?_cons_succ] at k0 k1 k2 k3 k4 k5
  go_wp2_with fail
  exact six_ret rfl rfl rfl (six hR.out rfl _ _ _ _ _ _) ⟨rfl, six_gr (gr_trans (gr_alloc (gr_refl _ _) _) hG.out) (Nat.le_refl _) _ _ _ _ _ _⟩
set_option maxRecDepth 100000 in
set_option maxHeartbeats 4000000 in
theorem reckons311 (h : Nat) (hh : h < 65536) (hf : F.get h 10 2 = 3) (hb : F.get h 12 1 = 1) (hc : F.get h 5 2 = 1) (w : World) :
    Calls Tryz.prog 59 #[.int .u32 h] w fun e w' => e = .returned (.agg (insn 2 (cl (vArithmetic h)))) ∧ w.grownBy w' none := by
  have HR := Lib.hid (Row.fresh w 23 six0)
  have H7 := Lib.hid (fun W => rGet_n h 7 3 (by omega) (by decide) (by decide) W)
  have H2 := Lib.hid (fun W => rGet_n h 2 3 (by omega) (by decide) (by decide) W)
  have H5 := Lib.hid (fun W => rGet_n h 5 2 (by omega) (by decide) (by decide) W)
  have H10 := Lib.hid (fun W => rGet_n h 10 2 (by omega) (by decide) (by decide) W)
  have b7 := get_lt h 7 3
  have b2 := get_lt h 2 3
  have H12 := Lib.hid (fun W => rGet_n h 12 1 (by omega) (by decide) (by decide) W)
  have e : vArithmetic h = (45, ((F.get h 7 3 + 8 : Nat) : Int), ((F.get h 7 3 + 8 : Nat) : Int), ((F.get h 2 3 + 8 : Nat) : Int), 0) := by unfold vArithmetic; rw [if_neg (by omega), if_neg (by omega), if_neg (by omega), hb, hc]; rfl
  rw [e, cl_is (show (45 : Int) ≠ 0 by decide)]
  clear e
  rw [hf] at H10
  rw [hb] at H12
  rw [hc] at H5
  clear hf hb hc
  generalize F.get h 7 3 = r at *
  generalize F.get h 2 3 = s at *
  go_enter Tryz.func59, Tryz.ntmps59
  go_wp2_with fail
  refine (H7.out _).mono ?_
  rintro e w0 ⟨rfl, rfl⟩
  go_wp2_with fail
  refine (H2.out _).mono ?_
  rintro e w0 ⟨rfl, rfl⟩
  go_wp2_with fail
  refine (H5.out _).mono ?_
  rintro e w0 ⟨rfl, rfl⟩
  go_wp2_with fail
  refine (H10.out _).mono ?_
  rintro e w0 ⟨rfl, rfl⟩
  go_wp2_with fail
  refine (H12.out _).mono ?_
  rintro e w0 ⟨rfl, rfl⟩
  go_wp2_with fail
  refine (rmake3_c _ _ _ _ _ _).mono ?_
  rintro e w1 ⟨rfl, hg1⟩
  have hG := Lib.hid (gr_trans ((gr_alloc ((gr_alloc (gr_refl (w.alloc (.cells six0.toArray 23)) none) _)) _)) hg1)
  have hR := Lib.hid (HR.out.grown hG.out (by simp)); have k0 := hR.out.cell 0; have k1 := hR.out.cell 1; have k2 := hR.out.cell 2; have k3 := hR.out.cell 3; have k4 := hR.out.cell 4; have k5 := hR.out.cell 5; have z := hR.out.free; simp only [six0, List.getElem?_cons_zero, List.getElem?_cons_succ] at k0 k1 k2 k3 k4 k5
  go_wp2_with fail
  exact six_ret rfl rfl rfl (six hR.out rfl _ _ _ _ _ _) ⟨rfl, six_gr (gr_trans (gr_alloc (gr_refl _ _) _) hG.out) (Nat.le_refl _) _ _ _ _ _ _⟩
set_option maxRecDepth 100000 in
set_option maxHeartbeats 4000000 in
theorem reckons312 (h : Nat) (hh : h < 65536) (hf : F.get h 10 2 = 3) (hb : F.get h 12 1 = 1) (hc : F.get h 5 2 = 2) (w : World) :
    Calls Tryz.prog 59 #[.int .u32 h] w fun e w' => e = .returned (.agg (insn 2 (cl (vArithmetic h)))) ∧ w.grownBy w' none := by
  have HR := Lib.hid (Row.fresh w 23 six0)
  have H7 := Lib.hid (fun W => rGet_n h 7 3 (by omega) (by decide) (by decide) W)
  have H2 := Lib.hid (fun W => rGet_n h 2 3 (by omega) (by decide) (by decide) W)
  have H5 := Lib.hid (fun W => rGet_n h 5 2 (by omega) (by decide) (by decide) W)
  have H10 := Lib.hid (fun W => rGet_n h 10 2 (by omega) (by decide) (by decide) W)
  have b7 := get_lt h 7 3
  have b2 := get_lt h 2 3
  have H12 := Lib.hid (fun W => rGet_n h 12 1 (by omega) (by decide) (by decide) W)
  have e : vArithmetic h = (0, ((F.get h 7 3 + 8 : Nat) : Int), ((F.get h 7 3 + 8 : Nat) : Int), ((F.get h 2 3 + 8 : Nat) : Int), 0) := by unfold vArithmetic; rw [if_neg (by omega), if_neg (by omega), if_neg (by omega), hb, hc]; rfl
  rw [e, cl_no rfl]
  clear e
  rw [hf] at H10
  rw [hb] at H12
  rw [hc] at H5
  clear hf hb hc
  generalize F.get h 7 3 = r at *
  generalize F.get h 2 3 = s at *
  go_enter Tryz.func59, Tryz.ntmps59
  go_wp2_with fail
  refine (H7.out _).mono ?_
  rintro e w0 ⟨rfl, rfl⟩
  go_wp2_with fail
  refine (H2.out _).mono ?_
  rintro e w0 ⟨rfl, rfl⟩
  go_wp2_with fail
  refine (H5.out _).mono ?_
  rintro e w0 ⟨rfl, rfl⟩
  go_wp2_with fail
  refine (H10.out _).mono ?_
  rintro e w0 ⟨rfl, rfl⟩
  go_wp2_with fail
  refine (H12.out _).mono ?_
  rintro e w0 ⟨rfl, rfl⟩
  go_wp2_with fail
  refine (rnone_c _).mono ?_
  rintro e w1 ⟨rfl, hg1⟩
  have hG := Lib.hid (gr_trans ((gr_alloc ((gr_alloc (gr_refl (w.alloc (.cells six0.toArray 23)) none) _)) _)) hg1)
  have hR := Lib.hid (HR.out.grown hG.out (by simp)); have k0 := hR.out.cell 0; have k1 := hR.out.cell 1; have k2 := hR.out.cell 2; have k3 := hR.out.cell 3; have k4 := hR.out.cell 4; have k5 := hR.out.cell 5; have z := hR.out.free; simp only [six0, List.getElem?_cons_zero, List.getElem?_cons_succ] at k0 k1 k2 k3 k4 k5
  go_wp2_with fail
  exact six_ret rfl rfl rfl (six hR.out rfl _ _ _ _ _ _) ⟨rfl, six_gr (gr_trans (gr_alloc (gr_refl _ _) _) hG.out) (Nat.le_refl _) _ _ _ _ _ _⟩
set_option maxRecDepth 100000 in
set_option maxHeartbeats 4000000 in
theorem reckons313 (h : Nat) (hh : h < 65536) (hf : F.get h 10 2 = 3) (hb : F.get h 12 1 = 1) (hc : F.get h 5 2 = 3) (w : World) :
    Calls Tryz.prog 59 #[.int .u32 h] w fun e w' => e = .returned (.agg (insn 2 (cl (vArithmetic h)))) ∧ w.grownBy w' none := by
  have HR := Lib.hid (Row.fresh w 23 six0)
  have H7 := Lib.hid (fun W => rGet_n h 7 3 (by omega) (by decide) (by decide) W)
  have H2 := Lib.hid (fun W => rGet_n h 2 3 (by omega) (by decide) (by decide) W)
  have H5 := Lib.hid (fun W => rGet_n h 5 2 (by omega) (by decide) (by decide) W)
  have H10 := Lib.hid (fun W => rGet_n h 10 2 (by omega) (by decide) (by decide) W)
  have b7 := get_lt h 7 3
  have b2 := get_lt h 2 3
  have H12 := Lib.hid (fun W => rGet_n h 12 1 (by omega) (by decide) (by decide) W)
  have e : vArithmetic h = (0, ((F.get h 7 3 + 8 : Nat) : Int), ((F.get h 7 3 + 8 : Nat) : Int), ((F.get h 2 3 + 8 : Nat) : Int), 0) := by unfold vArithmetic; rw [if_neg (by omega), if_neg (by omega), if_neg (by omega), hb, hc]; rfl
  rw [e, cl_no rfl]
  clear e
  rw [hf] at H10
  rw [hb] at H12
  rw [hc] at H5
  clear hf hb hc
  generalize F.get h 7 3 = r at *
  generalize F.get h 2 3 = s at *
  go_enter Tryz.func59, Tryz.ntmps59
  go_wp2_with fail
  refine (H7.out _).mono ?_
  rintro e w0 ⟨rfl, rfl⟩
  go_wp2_with fail
  refine (H2.out _).mono ?_
  rintro e w0 ⟨rfl, rfl⟩
  go_wp2_with fail
  refine (H5.out _).mono ?_
  rintro e w0 ⟨rfl, rfl⟩
  go_wp2_with fail
  refine (H10.out _).mono ?_
  rintro e w0 ⟨rfl, rfl⟩
  go_wp2_with fail
  refine (H12.out _).mono ?_
  rintro e w0 ⟨rfl, rfl⟩
  go_wp2_with fail
  refine (rnone_c _).mono ?_
  rintro e w1 ⟨rfl, hg1⟩
  have hG := Lib.hid (gr_trans ((gr_alloc ((gr_alloc (gr_refl (w.alloc (.cells six0.toArray 23)) none) _)) _)) hg1)
  have hR := Lib.hid (HR.out.grown hG.out (by simp)); have k0 := hR.out.cell 0; have k1 := hR.out.cell 1; have k2 := hR.out.cell 2; have k3 := hR.out.cell 3; have k4 := hR.out.cell 4; have k5 := hR.out.cell 5; have z := hR.out.free; simp only [six0, List.getElem?_cons_zero, List.getElem?_cons_succ] at k0 k1 k2 k3 k4 k5
  go_wp2_with fail
  exact six_ret rfl rfl rfl (six hR.out rfl _ _ _ _ _ _) ⟨rfl, six_gr (gr_trans (gr_alloc (gr_refl _ _) _) hG.out) (Nat.le_refl _) _ _ _ _ _ _⟩
theorem reckons_c (h : Nat) (hh : h < 65536) (w : World) :
    Calls Tryz.prog 59 #[.int .u32 h] w fun e w' => e = .returned (.agg (insn 2 (cl (vArithmetic h)))) ∧ w.grownBy w' none := by
  have a1 := get_lt h 10 2
  have a2 := bit_le h 12
  have a3 := get_lt h 5 2
  rcases (show F.get h 10 2 = 0 ∨ F.get h 10 2 = 1 ∨ F.get h 10 2 = 2 ∨ F.get h 10 2 = 3 by omega) with e | e | e | e
  · exact reckons0 h hh e w
  · exact reckons1 h hh e w
  · exact reckons2 h hh e w
  · rcases (show F.get h 12 1 = 0 ∨ F.get h 12 1 = 1 by omega) with e1 | e1 <;> rcases (show F.get h 5 2 = 0 ∨ F.get h 5 2 = 1 ∨ F.get h 5 2 = 2 ∨ F.get h 5 2 = 3 by omega) with e2 | e2 | e2 | e2
    · exact reckons300 h hh e e1 e2 w
    · exact reckons301 h hh e e1 e2 w
    · exact reckons302 h hh e e1 e2 w
    · exact reckons303 h hh e e1 e2 w
    · exact reckons310 h hh e e1 e2 w
    · exact reckons311 h hh e e1 e2 w
    · exact reckons312 h hh e e1 e2 w
    · exact reckons313 h hh e e1 e2 w
end Go.Proofs.YtpbeamnogfjagaaGreatDoor.refHalf
