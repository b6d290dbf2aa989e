/-
  The document's own Half and Any (package suzerainref05) answer as the program's: contracts over the translation.
  Conditions: the arguments are a half, a word.
-/
import Derived.Test.YtpbeamnogfjagaaGreatDoorCompX
import Derived.Test.YtpbeamnogfjagaaGreatDoorCompW
import Derived.Test.YtpbeamnogfjagaaGreatDoorCompS
import Derived.Test.YtpbeamnogfjagaaGreatDoorDecWR
namespace Go.Proofs.YtpbeamnogfjagaaGreatDoor.refHalf
open Go Go.RowKit F W M D refWord
set_option linter.unusedVariables false
set_option maxRecDepth 100000

theorem eight (f : Nat) (h : f < 8) : f = 0 ∨ f = 1 ∨ f = 2 ∨ f = 3 ∨ f = 4 ∨ f = 5 ∨ f = 6 ∨ f = 7 := by omega
theorem zero_c (h : Nat) (hh : h < 65536) (w : World) :
    Calls Tryz.prog 32 #[.int .u32 h] w fun e w' => e = .returned (.agg (insn 2 (cl (form h 0 (F.get h 13 3))))) ∧ w.grownBy w' none := by
  rcases eight _ (get_lt h 13 3) with e | e | e | e | e | e | e | e
  · rw [e]; exact zero0 h hh e w
  · exact zeroN h hh (by omega) w
  · rw [e]; exact zero2 h hh e w
  · rw [e]; exact zero3 h hh e w
  · exact zeroN h hh (by omega) w
  · exact zeroN h hh (by omega) w
  · rw [e]; exact zero6 h hh e w
  · rw [e]; exact zero7 h hh e w
theorem one_c (h : Nat) (hh : h < 65536) (w : World) :
    Calls Tryz.prog 33 #[.int .u32 h] w fun e w' => e = .returned (.agg (insn 2 (cl (form h 1 (F.get h 13 3))))) ∧ w.grownBy w' none := by
  rcases eight _ (get_lt h 13 3) with e | e | e | e | e | e | e | e
  · rw [e]; exact one0 h hh e w
  · rw [e]; exact one1 h hh e w
  · rw [e]; exact one2 h hh e w
  · rw [e]; exact one3 h hh e w
  · rw [e]; exact one4 h hh e w
  · rw [e]; exact one5 h hh e w
  · rw [e]; exact one6 h hh e w
  · rw [e]; exact one7 h hh e w
theorem two_c (h : Nat) (hh : h < 65536) (w : World) :
    Calls Tryz.prog 34 #[.int .u32 h] w fun e w' => e = .returned (.agg (insn 2 (cl (form h 2 (F.get h 13 3))))) ∧ w.grownBy w' none := by
  rcases eight _ (get_lt h 13 3) with e | e | e | e | e | e | e | e
  · rw [e]; exact two0 h hh e w
  · exact twoN h hh (by omega) w
  · rw [e]; exact two2 h hh e w
  · rw [e]; exact two3 h hh e w
  · rw [e]; exact two4 h hh e w
  · exact twoN h hh (by omega) w
  · rw [e]; exact two6 h hh e w
  · rw [e]; exact two7 h hh e w
set_option maxHeartbeats 1000000 in
theorem half0 (h : Nat) (hh : h < 65536) (hq : h % 4 = 0) (w : World) :
    Calls Tryz.prog 16 #[.int .u16 h] w fun e w' => e = .returned (.agg (insn 2 (halfV h))) ∧ w.grownBy w' none := by
  have HR := Lib.hid (Row.fresh w 23 six0)
  have HC := Lib.hid (fun W => zero_c h hh W)
  have e0 : halfV h = cl (form h 0 (F.get h 13 3)) := by show cl (formV h) = _; unfold formV; rw [get_q, hq]
  rw [← e0] at HC
  clear e0
  generalize halfV h = p at *
  obtain ⟨o, rd, rs1, rs2, im⟩ := p
  have q0 : (h : Int) % 4 = 0 := by omega
  clear hq
  go_enter Tryz.func16, Tryz.ntmps16
  go_wp2_with fail
  refine (HC.out _).mono ?_
  rintro e w1 ⟨rfl, hG⟩
  simp only [insn]
  have hR := Lib.hid (HR.out.grown hG (by simp)); have k0 := hR.out.cell 0; have k1 := hR.out.cell 1; have k2 := hR.out.cell 2; have k3 := hR.out.cell 3; have k4 := hR.out.cell 4; have k5 := hR.out.cell 5; have z := hR.out.free; simp only [six0, List.getElem?_cons_zero, List.getElem?_cons_succ] at k0 k1 k2 k3 k4 k5
  go_wp2_with fail
  exact six_ret rfl rfl rfl (six hR.out rfl _ _ _ _ _ _) ⟨rfl, six_gr (gr_trans (gr_alloc (gr_refl _ _) _) hG) (Nat.le_refl _) _ _ _ _ _ _⟩
set_option maxHeartbeats 1000000 in
theorem half1 (h : Nat) (hh : h < 65536) (hq : h % 4 = 1) (w : World) :
    Calls Tryz.prog 16 #[.int .u16 h] w fun e w' => e = .returned (.agg (insn 2 (halfV h))) ∧ w.grownBy w' none := by
  have HR := Lib.hid (Row.fresh w 23 six0)
  have HC := Lib.hid (fun W => one_c h hh W)
  have e0 : halfV h = cl (form h 1 (F.get h 13 3)) := by show cl (formV h) = _; unfold formV; rw [get_q, hq]
  rw [← e0] at HC
  clear e0
  generalize halfV h = p at *
  obtain ⟨o, rd, rs1, rs2, im⟩ := p
  have q0 : (h : Int) % 4 = 1 := by omega
  clear hq
  go_enter Tryz.func16, Tryz.ntmps16
  go_wp2_with fail
  refine (HC.out _).mono ?_
  rintro e w1 ⟨rfl, hG⟩
  simp only [insn]
  have hR := Lib.hid (HR.out.grown hG (by simp)); have k0 := hR.out.cell 0; have k1 := hR.out.cell 1; have k2 := hR.out.cell 2; have k3 := hR.out.cell 3; have k4 := hR.out.cell 4; have k5 := hR.out.cell 5; have z := hR.out.free; simp only [six0, List.getElem?_cons_zero, List.getElem?_cons_succ] at k0 k1 k2 k3 k4 k5
  go_wp2_with fail
  exact six_ret rfl rfl rfl (six hR.out rfl _ _ _ _ _ _) ⟨rfl, six_gr (gr_trans (gr_alloc (gr_refl _ _) _) hG) (Nat.le_refl _) _ _ _ _ _ _⟩
set_option maxHeartbeats 1000000 in
theorem half2 (h : Nat) (hh : h < 65536) (hq : h % 4 = 2) (w : World) :
    Calls Tryz.prog 16 #[.int .u16 h] w fun e w' => e = .returned (.agg (insn 2 (halfV h))) ∧ w.grownBy w' none := by
  have HR := Lib.hid (Row.fresh w 23 six0)
  have HC := Lib.hid (fun W => two_c h hh W)
  have e0 : halfV h = cl (form h 2 (F.get h 13 3)) := by show cl (formV h) = _; unfold formV; rw [get_q, hq]
  rw [← e0] at HC
  clear e0
  generalize halfV h = p at *
  obtain ⟨o, rd, rs1, rs2, im⟩ := p
  have q0 : (h : Int) % 4 = 2 := by omega
  clear hq
  go_enter Tryz.func16, Tryz.ntmps16
  go_wp2_with fail
  refine (HC.out _).mono ?_
  rintro e w1 ⟨rfl, hG⟩
  simp only [insn]
  have hR := Lib.hid (HR.out.grown hG (by simp)); have k0 := hR.out.cell 0; have k1 := hR.out.cell 1; have k2 := hR.out.cell 2; have k3 := hR.out.cell 3; have k4 := hR.out.cell 4; have k5 := hR.out.cell 5; have z := hR.out.free; simp only [six0, List.getElem?_cons_zero, List.getElem?_cons_succ] at k0 k1 k2 k3 k4 k5
  go_wp2_with fail
  exact six_ret rfl rfl rfl (six hR.out rfl _ _ _ _ _ _) ⟨rfl, six_gr (gr_trans (gr_alloc (gr_refl _ _) _) hG) (Nat.le_refl _) _ _ _ _ _ _⟩
set_option maxHeartbeats 1000000 in
theorem half3 (h : Nat) (hh : h < 65536) (hq : h % 4 = 3) (w : World) :
    Calls Tryz.prog 16 #[.int .u16 h] w fun e w' => e = .returned (.agg (insn 2 (halfV h))) ∧ w.grownBy w' none := by
  have HR := Lib.hid (Row.fresh w 23 six0)
  have e0 : halfV h = (0, bar) := by show cl (formV h) = _; unfold formV form; rw [get_q, hq]; rfl
  rw [e0]
  have q0 : (h : Int) % 4 = 3 := by omega
  clear hq e0
  go_enter Tryz.func16, Tryz.ntmps16
  go_wp2_with fail
  refine (rnone_c _).mono ?_
  rintro e w1 ⟨rfl, hG⟩
  have hR := Lib.hid (HR.out.grown hG (by simp)); have k0 := hR.out.cell 0; have k1 := hR.out.cell 1; have k2 := hR.out.cell 2; have k3 := hR.out.cell 3; have k4 := hR.out.cell 4; have k5 := hR.out.cell 5; have z := hR.out.free; simp only [six0, List.getElem?_cons_zero, List.getElem?_cons_succ] at k0 k1 k2 k3 k4 k5
  go_wp2_with fail
  exact six_ret rfl rfl rfl (six hR.out rfl _ _ _ _ _ _) ⟨rfl, six_gr (gr_trans (gr_alloc (gr_refl _ _) _) hG) (Nat.le_refl _) _ _ _ _ _ _⟩
theorem rHalf_c (h : Nat) (hh : h < 65536) (w : World) :
    Calls Tryz.prog 16 #[.int .u16 h] w fun e w' => e = .returned (.agg (insn 2 (halfV h))) ∧ w.grownBy w' none := by
  rcases (show h % 4 = 0 ∨ h % 4 = 1 ∨ h % 4 = 2 ∨ h % 4 = 3 by omega) with e | e | e | e
  · exact half0 h hh e w
  · exact half1 h hh e w
  · exact half2 h hh e w
  · exact half3 h hh e w
end Go.Proofs.YtpbeamnogfjagaaGreatDoor.refHalf
