/-
  What the document's own halves (package suzerainref05: zero, one, two, reckons) are: contracts over the translation, by the program's plain functions.
  Conditions: the argument is a half.
-/
import Derived.Test.YtpbeamnogfjagaaGreatDoorCompR
import Derived.Test.YtpbeamnogfjagaaGreatDoorCompS
namespace Go.Proofs.YtpbeamnogfjagaaGreatDoor.refHalf
open Go Go.RowKit F W M D
set_option linter.unusedVariables false
set_option maxRecDepth 100000

/-- Nothing beside, where it is none. -/
def cl (p : Int × Parts) : Int × Parts := if p.1 = 0 then (0, bar) else p
theorem cl_no {p : Int × Parts} (h : p.1 = 0) : cl p = (0, bar) := if_pos h
theorem cl_is {p : Int × Parts} (h : p.1 ≠ 0) : cl p = p := if_neg h
set_option maxRecDepth 100000 in
set_option maxHeartbeats 4000000 in
theorem zero2 (h : Nat) (hh : h < 65536) (hf : F.get h 13 3 = 2) (w : World) :
    Calls Tryz.prog 32 #[.int .u32 h] w fun e w' => e = .returned (.agg (insn 2 (cl (form h 0 2)))) ∧ w.grownBy w' none := by
  have HR := Lib.hid (Row.fresh w 23 six0)
  have H7 := Lib.hid (fun W => rGet_n h 7 3 (by omega) (by decide) (by decide) W)
  have H2 := Lib.hid (fun W => rGet_n h 2 3 (by omega) (by decide) (by decide) W)
  have H13 := Lib.hid (fun W => rGet_n h 13 3 (by omega) (by decide) (by decide) W)
  have N4 := Lib.hid (fun W g hR => rnumber_c h g [5, 12, 11, 10, 6, 0, 0] hh (by decide) (by decide) W hR)
  have N8 := Lib.hid (fun W g hR => rnumber_c h g [6, 5, 12, 11, 10, 0, 0, 0] hh (by decide) (by decide) W hR)
  have b7 := get_lt h 7 3
  have b2 := get_lt h 2 3
  rw [show cl (form h 0 2) = (13, ((F.get h 2 3 + 8 : Nat) : Int), ((F.get h 7 3 + 8 : Nat) : Int), 0, ((numV h [5, 12, 11, 10, 6, 0, 0] : Nat) : Int)) from rfl]
  rw [hf] at H13
  clear hf
  generalize F.get h 7 3 = r at *
  generalize F.get h 2 3 = s at *
  generalize numV h [5, 12, 11, 10, 6, 0, 0] = n4 at *
  generalize numV h [6, 5, 12, 11, 10, 0, 0, 0] = n8 at *
  go_enter Tryz.func32, Tryz.ntmps32
  go_wp2_with fail
  refine (H7.out _).mono ?_
  rintro e w0 ⟨rfl, rfl⟩
  go_wp2_with fail
  refine (H2.out _).mono ?_
  rintro e w0 ⟨rfl, rfl⟩
  go_wp2_with fail
  refine (N4.out _ _ (by have hf := Row.fresh (w.alloc (.cells six0.toArray 23)) 3 (zv [5, 12, 11, 10, 6, 0, 0]); rw [World.size_alloc] at hf; exact hf)).mono ?_
  rintro e w0 ⟨rfl, rfl⟩
  go_wp2_with fail
  refine (N8.out _ _ (by have hf := Row.fresh ((w.alloc (.cells six0.toArray 23)).alloc (.cells (zv [5, 12, 11, 10, 6, 0, 0]).toArray 3)) 3 (zv [6, 5, 12, 11, 10, 0, 0, 0]); rw [World.size_alloc, World.size_alloc] at hf; exact hf)).mono ?_
  rintro e w0 ⟨rfl, rfl⟩
  go_wp2_with fail
  refine (H13.out _).mono ?_
  rintro e w0 ⟨rfl, rfl⟩
  go_wp2_with fail
  refine (rmake3_c _ _ _ _ _ _).mono ?_
  rintro e w1 ⟨rfl, hg1⟩
  have hG := Lib.hid (gr_trans ((gr_alloc ((gr_alloc (gr_refl (w.alloc (.cells six0.toArray 23)) none) _)) _)) hg1)
  have hR := Lib.hid (HR.out.grown hG.out (by simp)); have k0 := hR.out.cell 0; have k1 := hR.out.cell 1; have k2 := hR.out.cell 2; have k3 := hR.out.cell 3; have k4 := hR.out.cell 4; have k5 := hR.out.cell 5; have z := hR.out.free; simp only [six0, List.getElem?_cons_zero, List.getElem?_cons_succ] at k0 k1 k2 k3 k4 k5
  go_wp2_with fail
  exact six_ret rfl rfl rfl (six hR.out rfl _ _ _ _ _ _) ⟨rfl, six_gr (gr_trans (gr_alloc (gr_refl _ _) _) hG.out) (Nat.le_refl _) _ _ _ _ _ _⟩
set_option maxRecDepth 100000 in
set_option maxHeartbeats 4000000 in
theorem zero3 (h : Nat) (hh : h < 65536) (hf : F.get h 13 3 = 3) (w : World) :
    Calls Tryz.prog 32 #[.int .u32 h] w fun e w' => e = .returned (.agg (insn 2 (cl (form h 0 3)))) ∧ w.grownBy w' none := by
  have HR := Lib.hid (Row.fresh w 23 six0)
  have H7 := Lib.hid (fun W => rGet_n h 7 3 (by omega) (by decide) (by decide) W)
  have H2 := Lib.hid (fun W => rGet_n h 2 3 (by omega) (by decide) (by decide) W)
  have H13 := Lib.hid (fun W => rGet_n h 13 3 (by omega) (by decide) (by decide) W)
  have N4 := Lib.hid (fun W g hR => rnumber_c h g [5, 12, 11, 10, 6, 0, 0] hh (by decide) (by decide) W hR)
  have N8 := Lib.hid (fun W g hR => rnumber_c h g [6, 5, 12, 11, 10, 0, 0, 0] hh (by decide) (by decide) W hR)
  have b7 := get_lt h 7 3
  have b2 := get_lt h 2 3
  rw [show cl (form h 0 3) = (14, ((F.get h 2 3 + 8 : Nat) : Int), ((F.get h 7 3 + 8 : Nat) : Int), 0, ((numV h [6, 5, 12, 11, 10, 0, 0, 0] : Nat) : Int)) from rfl]
  rw [hf] at H13
  clear hf
  generalize F.get h 7 3 = r at *
  generalize F.get h 2 3 = s at *
  generalize numV h [5, 12, 11, 10, 6, 0, 0] = n4 at *
  generalize numV h [6, 5, 12, 11, 10, 0, 0, 0] = n8 at *
  go_enter Tryz.func32, Tryz.ntmps32
  go_wp2_with fail
  refine (H7.out _).mono ?_
  rintro e w0 ⟨rfl, rfl⟩
  go_wp2_with fail
  refine (H2.out _).mono ?_
  rintro e w0 ⟨rfl, rfl⟩
  go_wp2_with fail
  refine (N4.out _ _ (by have hf := Row.fresh (w.alloc (.cells six0.toArray 23)) 3 (zv [5, 12, 11, 10, 6, 0, 0]); rw [World.size_alloc] at hf; exact hf)).mono ?_
  rintro e w0 ⟨rfl, rfl⟩
  go_wp2_with fail
  refine (N8.out _ _ (by have hf := Row.fresh ((w.alloc (.cells six0.toArray 23)).alloc (.cells (zv [5, 12, 11, 10, 6, 0, 0]).toArray 3)) 3 (zv [6, 5, 12, 11, 10, 0, 0, 0]); rw [World.size_alloc, World.size_alloc] at hf; exact hf)).mono ?_
  rintro e w0 ⟨rfl, rfl⟩
  go_wp2_with fail
  refine (H13.out _).mono ?_
  rintro e w0 ⟨rfl, rfl⟩
  go_wp2_with fail
  refine (rmake3_c _ _ _ _ _ _).mono ?_
  rintro e w1 ⟨rfl, hg1⟩
  have hG := Lib.hid (gr_trans ((gr_alloc ((gr_alloc (gr_refl (w.alloc (.cells six0.toArray 23)) none) _)) _)) hg1)
  have hR := Lib.hid (HR.out.grown hG.out (by simp)); have k0 := hR.out.cell 0; have k1 := hR.out.cell 1; have k2 := hR.out.cell 2; have k3 := hR.out.cell 3; have k4 := hR.out.cell 4; have k5 := hR.out.cell 5; have z := hR.out.free; simp only [six0, List.getElem?_cons_zero, List.getElem?_cons_succ] at k0 k1 k2 k3 k4 k5
  go_wp2_with fail
  exact six_ret rfl rfl rfl (six hR.out rfl _ _ _ _ _ _) ⟨rfl, six_gr (gr_trans (gr_alloc (gr_refl _ _) _) hG.out) (Nat.le_refl _) _ _ _ _ _ _⟩
set_option maxRecDepth 100000 in
set_option maxHeartbeats 4000000 in
theorem zero6 (h : Nat) (hh : h < 65536) (hf : F.get h 13 3 = 6) (w : World) :
    Calls Tryz.prog 32 #[.int .u32 h] w fun e w' => e = .returned (.agg (insn 2 (cl (form h 0 6)))) ∧ w.grownBy w' none := by
  have HR := Lib.hid (Row.fresh w 23 six0)
  have H7 := Lib.hid (fun W => rGet_n h 7 3 (by omega) (by decide) (by decide) W)
  have H2 := Lib.hid (fun W => rGet_n h 2 3 (by omega) (by decide) (by decide) W)
  have H13 := Lib.hid (fun W => rGet_n h 13 3 (by omega) (by decide) (by decide) W)
  have N4 := Lib.hid (fun W g hR => rnumber_c h g [5, 12, 11, 10, 6, 0, 0] hh (by decide) (by decide) W hR)
  have N8 := Lib.hid (fun W g hR => rnumber_c h g [6, 5, 12, 11, 10, 0, 0, 0] hh (by decide) (by decide) W hR)
  have b7 := get_lt h 7 3
  have b2 := get_lt h 2 3
  rw [show cl (form h 0 6) = (20, 0, ((F.get h 7 3 + 8 : Nat) : Int), ((F.get h 2 3 + 8 : Nat) : Int), ((numV h [5, 12, 11, 10, 6, 0, 0] : Nat) : Int)) from rfl]
  rw [hf] at H13
  clear hf
  generalize F.get h 7 3 = r at *
  generalize F.get h 2 3 = s at *
  generalize numV h [5, 12, 11, 10, 6, 0, 0] = n4 at *
  generalize numV h [6, 5, 12, 11, 10, 0, 0, 0] = n8 at *
  go_enter Tryz.func32, Tryz.ntmps32
  go_wp2_with fail
  refine (H7.out _).mono ?_
  rintro e w0 ⟨rfl, rfl⟩
  go_wp2_with fail
  refine (H2.out _).mono ?_
  rintro e w0 ⟨rfl, rfl⟩
  go_wp2_with fail
  refine (N4.out _ _ (by have hf := Row.fresh (w.alloc (.cells six0.toArray 23)) 3 (zv [5, 12, 11, 10, 6, 0, 0]); rw [World.size_alloc] at hf; exact hf)).mono ?_
  rintro e w0 ⟨rfl, rfl⟩
  go_wp2_with fail
  refine (N8.out _ _ (by have hf := Row.fresh ((w.alloc (.cells six0.toArray 23)).alloc (.cells (zv [5, 12, 11, 10, 6, 0, 0]).toArray 3)) 3 (zv [6, 5, 12, 11, 10, 0, 0, 0]); rw [World.size_alloc, World.size_alloc] at hf; exact hf)).mono ?_
  rintro e w0 ⟨rfl, rfl⟩
  go_wp2_with fail
  refine (H13.out _).mono ?_
  rintro e w0 ⟨rfl, rfl⟩
  go_wp2_with fail
  refine (rmake3_c _ _ _ _ _ _).mono ?_
  rintro e w1 ⟨rfl, hg1⟩
  have hG := Lib.hid (gr_trans ((gr_alloc ((gr_alloc (gr_refl (w.alloc (.cells six0.toArray 23)) none) _)) _)) hg1)
  have hR := Lib.hid (HR.out.grown hG.out (by simp)); have k0 := hR.out.cell 0; have k1 := hR.out.cell 1; have k2 := hR.out.cell 2; have k3 := hR.out.cell 3; have k4 := hR.out.cell 4; have k5 := hR.out.cell 5; have z := hR.out.free; simp only [six0, List.getElem?_cons_zero, List.getElem?_cons_succ] at k0 k1 k2 k3 k4 k5
  go_wp2_with fail
  exact six_ret rfl rfl rfl (six hR.out rfl _ _ _ _ _ _) ⟨rfl, six_gr (gr_trans (gr_alloc (gr_refl _ _) _) hG.out) (Nat.le_refl _) _ _ _ _ _ _⟩
set_option maxRecDepth 100000 in
set_option maxHeartbeats 4000000 in
theorem zero7 (h : Nat) (hh : h < 65536) (hf : F.get h 13 3 = 7) (w : World) :
    Calls Tryz.prog 32 #[.int .u32 h] w fun e w' => e = .returned (.agg (insn 2 (cl (form h 0 7)))) ∧ w.grownBy w' none := by
  have HR := Lib.hid (Row.fresh w 23 six0)
  have H7 := Lib.hid (fun W => rGet_n h 7 3 (by omega) (by decide) (by decide) W)
  have H2 := Lib.hid (fun W => rGet_n h 2 3 (by omega) (by decide) (by decide) W)
  have H13 := Lib.hid (fun W => rGet_n h 13 3 (by omega) (by decide) (by decide) W)
  have N4 := Lib.hid (fun W g hR => rnumber_c h g [5, 12, 11, 10, 6, 0, 0] hh (by decide) (by decide) W hR)
  have N8 := Lib.hid (fun W g hR => rnumber_c h g [6, 5, 12, 11, 10, 0, 0, 0] hh (by decide) (by decide) W hR)
  have b7 := get_lt h 7 3
  have b2 := get_lt h 2 3
  rw [show cl (form h 0 7) = (21, 0, ((F.get h 7 3 + 8 : Nat) : Int), ((F.get h 2 3 + 8 : Nat) : Int), ((numV h [6, 5, 12, 11, 10, 0, 0, 0] : Nat) : Int)) from rfl]
  rw [hf] at H13
  clear hf
  generalize F.get h 7 3 = r at *
  generalize F.get h 2 3 = s at *
  generalize numV h [5, 12, 11, 10, 6, 0, 0] = n4 at *
  generalize numV h [6, 5, 12, 11, 10, 0, 0, 0] = n8 at *
  go_enter Tryz.func32, Tryz.ntmps32
  go_wp2_with fail
  refine (H7.out _).mono ?_
  rintro e w0 ⟨rfl, rfl⟩
  go_wp2_with fail
  refine (H2.out _).mono ?_
  rintro e w0 ⟨rfl, rfl⟩
  go_wp2_with fail
  refine (N4.out _ _ (by have hf := Row.fresh (w.alloc (.cells six0.toArray 23)) 3 (zv [5, 12, 11, 10, 6, 0, 0]); rw [World.size_alloc] at hf; exact hf)).mono ?_
  rintro e w0 ⟨rfl, rfl⟩
  go_wp2_with fail
  refine (N8.out _ _ (by have hf := Row.fresh ((w.alloc (.cells six0.toArray 23)).alloc (.cells (zv [5, 12, 11, 10, 6, 0, 0]).toArray 3)) 3 (zv [6, 5, 12, 11, 10, 0, 0, 0]); rw [World.size_alloc, World.size_alloc] at hf; exact hf)).mono ?_
  rintro e w0 ⟨rfl, rfl⟩
  go_wp2_with fail
  refine (H13.out _).mono ?_
  rintro e w0 ⟨rfl, rfl⟩
  go_wp2_with fail
  refine (rmake3_c _ _ _ _ _ _).mono ?_
  rintro e w1 ⟨rfl, hg1⟩
  have hG := Lib.hid (gr_trans ((gr_alloc ((gr_alloc (gr_refl (w.alloc (.cells six0.toArray 23)) none) _)) _)) hg1)
  have hR := Lib.hid (HR.out.grown hG.out (by simp)); have k0 := hR.out.cell 0; have k1 := hR.out.cell 1; have k2 := hR.out.cell 2; have k3 := hR.out.cell 3; have k4 := hR.out.cell 4; have k5 := hR.out.cell 5; have z := hR.out.free; simp only [six0, List.getElem?_cons_zero, List.getElem?_cons_succ] at k0 k1 k2 k3 k4 k5
  go_wp2_with fail
  exact six_ret rfl rfl rfl (six hR.out rfl _ _ _ _ _ _) ⟨rfl, six_gr (gr_trans (gr_alloc (gr_refl _ _) _) hG.out) (Nat.le_refl _) _ _ _ _ _ _⟩
set_option maxRecDepth 100000 in
set_option maxHeartbeats 4000000 in
theorem zero0 (h : Nat) (hh : h < 65536) (hf : F.get h 13 3 = 0) (w : World) :
    Calls Tryz.prog 32 #[.int .u32 h] w fun e w' => e = .returned (.agg (insn 2 (cl (form h 0 0)))) ∧ w.grownBy w' none := by
  have HR := Lib.hid (Row.fresh w 23 six0)
  have H7 := Lib.hid (fun W => rGet_n h 7 3 (by omega) (by decide) (by decide) W)
  have H2 := Lib.hid (fun W => rGet_n h 2 3 (by omega) (by decide) (by decide) W)
  have H13 := Lib.hid (fun W => rGet_n h 13 3 (by omega) (by decide) (by decide) W)
  have N4 := Lib.hid (fun W g hR => rnumber_c h g [5, 12, 11, 10, 6, 0, 0] hh (by decide) (by decide) W hR)
  have N8 := Lib.hid (fun W g hR => rnumber_c h g [6, 5, 12, 11, 10, 0, 0, 0] hh (by decide) (by decide) W hR)
  have b7 := get_lt h 7 3
  have b2 := get_lt h 2 3
  have N10 := Lib.hid (fun W g hR => rnumber_c h g [10, 9, 8, 7, 12, 11, 5, 6, 0, 0] hh (by decide) (by decide) W hR)
  rw [hf] at H13
  clear hf
  rw [show form h 0 0 = (if ((numV h [10, 9, 8, 7, 12, 11, 5, 6, 0, 0] : Nat) : Int) = 0 then (0, bar) else (22, ((F.get h 2 3 + 8 : Nat) : Int), 2, 0, ((numV h [10, 9, 8, 7, 12, 11, 5, 6, 0, 0] : Nat) : Int))) from rfl]
  generalize F.get h 7 3 = r at *
  generalize F.get h 2 3 = s at *
  generalize numV h [5, 12, 11, 10, 6, 0, 0] = n4 at *
  generalize numV h [6, 5, 12, 11, 10, 0, 0, 0] = n8 at *
  generalize numV h [10, 9, 8, 7, 12, 11, 5, 6, 0, 0] = n at *
  by_cases h0 : (n : Int) = 0
  · rw [if_pos h0, cl_no rfl]
    rw [h0] at N10
    clear h0
    go_enter Tryz.func32, Tryz.ntmps32
    go_wp2_with fail
    refine (H7.out _).mono ?_
    rintro e w0 ⟨rfl, rfl⟩
    go_wp2_with fail
    refine (H2.out _).mono ?_
    rintro e w0 ⟨rfl, rfl⟩
    go_wp2_with fail
    refine (N4.out _ _ (by have hf := Row.fresh (w.alloc (.cells six0.toArray 23)) 3 (zv [5, 12, 11, 10, 6, 0, 0]); rw [World.size_alloc] at hf; exact hf)).mono ?_
    rintro e w0 ⟨rfl, rfl⟩
    go_wp2_with fail
    refine (N8.out _ _ (by have hf := Row.fresh ((w.alloc (.cells six0.toArray 23)).alloc (.cells (zv [5, 12, 11, 10, 6, 0, 0]).toArray 3)) 3 (zv [6, 5, 12, 11, 10, 0, 0, 0]); rw [World.size_alloc, World.size_alloc] at hf; exact hf)).mono ?_
    rintro e w0 ⟨rfl, rfl⟩
    go_wp2_with fail
    refine (H13.out _).mono ?_
    rintro e w0 ⟨rfl, rfl⟩
    go_wp2_with fail
    refine (N10.out _ _ (by have hf := Row.fresh (((w.alloc (.cells six0.toArray 23)).alloc (.cells (zv [5, 12, 11, 10, 6, 0, 0]).toArray 3)).alloc (.cells (zv [6, 5, 12, 11, 10, 0, 0, 0]).toArray 3)) 3 (zv [10, 9, 8, 7, 12, 11, 5, 6, 0, 0]); rw [World.size_alloc, World.size_alloc, World.size_alloc] at hf; exact hf)).mono ?_
    rintro e w0 ⟨rfl, rfl⟩
    go_wp2_with fail
    refine (rnone_c _).mono ?_
    rintro e w1 ⟨rfl, hg1⟩
    have hG := Lib.hid (gr_trans ((gr_alloc ((gr_alloc ((gr_alloc (gr_refl (w.alloc (.cells six0.toArray 23)) none) _)) _)) _)) hg1)
    have hR := Lib.hid (HR.out.grown hG.out (by simp)); have k0 := hR.out.cell 0; have k1 := hR.out.cell 1; have k2 := hR.out.cell 2; have k3 := hR.out.cell 3; have k4 := hR.out.cell 4; have k5 := hR.out.cell 5; have z := hR.out.free; simp only [six0, List.getElem?_cons_zero, List.getElem?_cons_succ] at k0 k1 k2 k3 k4 k5
    go_wp2_with fail
    exact six_ret rfl rfl rfl (six hR.out rfl _ _ _ _ _ _) ⟨rfl, six_gr (gr_trans (gr_alloc (gr_refl _ _) _) hG.out) (Nat.le_refl _) _ _ _ _ _ _⟩
  · rw [if_neg h0, cl_is (show (22 : Int) ≠ 0 by decide)]
    have d0 : ((n : Int) == 0) = false := by simpa using h0
    go_enter Tryz.func32, Tryz.ntmps32
    go_wp2_with fail
    refine (H7.out _).mono ?_
    rintro e w0 ⟨rfl, rfl⟩
    go_wp2_with fail
    refine (H2.out _).mono ?_
    rintro e w0 ⟨rfl, rfl⟩
    go_wp2_with fail
    refine (N4.out _ _ (by have hf := Row.fresh (w.alloc (.cells six0.toArray 23)) 3 (zv [5, 12, 11, 10, 6, 0, 0]); rw [World.size_alloc] at hf; exact hf)).mono ?_
    rintro e w0 ⟨rfl, rfl⟩
    go_wp2_with fail
    refine (N8.out _ _ (by have hf := Row.fresh ((w.alloc (.cells six0.toArray 23)).alloc (.cells (zv [5, 12, 11, 10, 6, 0, 0]).toArray 3)) 3 (zv [6, 5, 12, 11, 10, 0, 0, 0]); rw [World.size_alloc, World.size_alloc] at hf; exact hf)).mono ?_
    rintro e w0 ⟨rfl, rfl⟩
    go_wp2_with fail
    refine (H13.out _).mono ?_
    rintro e w0 ⟨rfl, rfl⟩
    go_wp2_with fail
    refine (N10.out _ _ (by have hf := Row.fresh (((w.alloc (.cells six0.toArray 23)).alloc (.cells (zv [5, 12, 11, 10, 6, 0, 0]).toArray 3)).alloc (.cells (zv [6, 5, 12, 11, 10, 0, 0, 0]).toArray 3)) 3 (zv [10, 9, 8, 7, 12, 11, 5, 6, 0, 0]); rw [World.size_alloc, World.size_alloc, World.size_alloc] at hf; exact hf)).mono ?_
    rintro e w0 ⟨rfl, rfl⟩
    go_wp2_with fail
    refine (rmake3_c _ _ _ _ _ _).mono ?_
    rintro e w1 ⟨rfl, hg1⟩
    have hG := Lib.hid (gr_trans ((gr_alloc ((gr_alloc ((gr_alloc (gr_refl (w.alloc (.cells six0.toArray 23)) none) _)) _)) _)) hg1)
    have hR := Lib.hid (HR.out.grown hG.out (by simp)); have k0 := hR.out.cell 0; have k1 := hR.out.cell 1; have k2 := hR.out.cell 2; have k3 := hR.out.cell 3; have k4 := hR.out.cell 4; have k5 := hR.out.cell 5; have z := hR.out.free; simp only [six0, List.getElem?_cons_zero, List.getElem?_cons_succ] at k0 k1 k2 k3 k4 k5
    go_wp2_with fail
    exact six_ret rfl rfl rfl (six hR.out rfl _ _ _ _ _ _) ⟨rfl, six_gr (gr_trans (gr_alloc (gr_refl _ _) _) hG.out) (Nat.le_refl _) _ _ _ _ _ _⟩
set_option maxRecDepth 100000 in
set_option maxHeartbeats 4000000 in
theorem zeroN (h : Nat) (hh : h < 65536) (hf : F.get h 13 3 ≠ 0 ∧ F.get h 13 3 ≠ 2 ∧ F.get h 13 3 ≠ 3 ∧ F.get h 13 3 ≠ 6 ∧ F.get h 13 3 ≠ 7) (w : World) :
    Calls Tryz.prog 32 #[.int .u32 h] w fun e w' => e = .returned (.agg (insn 2 (cl (form h 0 (F.get h 13 3))))) ∧ w.grownBy w' none := by
  have HR := Lib.hid (Row.fresh w 23 six0)
  have H7 := Lib.hid (fun W => rGet_n h 7 3 (by omega) (by decide) (by decide) W)
  have H2 := Lib.hid (fun W => rGet_n h 2 3 (by omega) (by decide) (by decide) W)
  have H13 := Lib.hid (fun W => rGet_n h 13 3 (by omega) (by decide) (by decide) W)
  have N4 := Lib.hid (fun W g hR => rnumber_c h g [5, 12, 11, 10, 6, 0, 0] hh (by decide) (by decide) W hR)
  have N8 := Lib.hid (fun W g hR => rnumber_c h g [6, 5, 12, 11, 10, 0, 0, 0] hh (by decide) (by decide) W hR)
  have b7 := get_lt h 7 3
  have b2 := get_lt h 2 3
  have e : form h 0 (F.get h 13 3) = (0, bar) := by unfold form; rw [if_pos rfl, if_neg (by omega), if_neg (by omega), if_neg (by omega), if_neg (by omega), if_neg (by omega)]; rfl
  rw [e, cl_no rfl]
  clear e
  have b13 := get_lt h 13 3
  generalize F.get h 7 3 = r at *
  generalize F.get h 2 3 = s at *
  generalize numV h [5, 12, 11, 10, 6, 0, 0] = n4 at *
  generalize numV h [6, 5, 12, 11, 10, 0, 0, 0] = n8 at *
  generalize F.get h 13 3 = f at *
  have d0 : ((f : Int) == 0) = false := by simp; omega
  have d2 : ((f : Int) == 2) = false := by simp; omega
  have d3 : ((f : Int) == 3) = false := by simp; omega
  have d6 : ((f : Int) == 6) = false := by simp; omega
  have d7 : ((f : Int) == 7) = false := by simp; omega
  go_enter Tryz.func32, Tryz.ntmps32
  go_wp2_with fail
  refine (H7.out _).mono ?_
  rintro e w0 ⟨rfl, rfl⟩
  go_wp2_with fail
  refine (H2.out _).mono ?_
  rintro e w0 ⟨rfl, rfl⟩
  go_wp2_with fail
  refine (N4.out _ _ (by have hf := Row.fresh (w.alloc (.cells six0.toArray 23)) 3 (zv [5, 12, 11, 10, 6, 0, 0]); rw [World.size_alloc] at hf; exact hf)).mono ?_
  rintro e w0 ⟨rfl, rfl⟩
  go_wp2_with fail
  refine (N8.out _ _ (by have hf := Row.fresh ((w.alloc (.cells six0.toArray 23)).alloc (.cells (zv [5, 12, 11, 10, 6, 0, 0]).toArray 3)) 3 (zv [6, 5, 12, 11, 10, 0, 0, 0]); rw [World.size_alloc, World.size_alloc] at hf; exact hf)).mono ?_
  rintro e w0 ⟨rfl, rfl⟩
  go_wp2_with fail
  refine (H13.out _).mono ?_
  rintro e w0 ⟨rfl, rfl⟩
  go_wp2_with fail
  refine (rnone_c _).mono ?_
  rintro e w1 ⟨rfl, hg1⟩
  have hG := Lib.hid (gr_trans ((gr_alloc ((gr_alloc (gr_refl (w.alloc (.cells six0.toArray 23)) none) _)) _)) hg1)
  have hR := Lib.hid (HR.out.grown hG.out (by simp)); have k0 := hR.out.cell 0; have k1 := hR.out.cell 1; have k2 := hR.out.cell 2; have k3 := hR.out.cell 3; have k4 := hR.out.cell 4; have k5 := hR.out.cell 5; have z := hR.out.free; simp only [six0, List.getElem?_cons_zero, List.getElem?_cons_succ] at k0 k1 k2 k3 k4 k5
  go_wp2_with fail
  exact six_ret rfl rfl rfl (six hR.out rfl _ _ _ _ _ _) ⟨rfl, six_gr (gr_trans (gr_alloc (gr_refl _ _) _) hG.out) (Nat.le_refl _) _ _ _ _ _ _⟩
end Go.Proofs.YtpbeamnogfjagaaGreatDoor.refHalf
