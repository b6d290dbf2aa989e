/-
  The table of the forms of package comp, and what Half and Any answer: contracts over the program's translation.
  Conditions: the arguments are numbers of their kinds.
-/
import Derived.Test.YthdjbmajdbfebaaGreatCompG
import Derived.Deep.WholeRow
namespace Go.Proofs.YthdjbmajdbfebaaGreat
open Go Go.RowKit F W M D
set_option linter.unusedVariables false

/-- The forms, by q and then by f. -/
def forms : List Nat := [17, 18, 19, 20, 18, 18, 21, 22,
  23, 24, 25, 26, 27, 28, 29, 30,
  31, 18, 32, 33, 34, 18, 35, 36,
  18, 18, 18, 18, 18, 18, 18, 18]
def fv (L : List Nat) : List Value := L.map fun k => .func (.func k) #[] #[]
def nils : List Value := [.nilFunc, .nilFunc, .nilFunc, .nilFunc, .nilFunc, .nilFunc, .nilFunc, .nilFunc, .nilFunc, .nilFunc, .nilFunc, .nilFunc, .nilFunc, .nilFunc, .nilFunc, .nilFunc, .nilFunc, .nilFunc, .nilFunc, .nilFunc, .nilFunc, .nilFunc, .nilFunc, .nilFunc, .nilFunc, .nilFunc, .nilFunc, .nilFunc, .nilFunc, .nilFunc, .nilFunc, .nilFunc]
set_option maxRecDepth 100000 in
set_option maxHeartbeats 4000000 in
theorem forms_c (w : World) : Calls Tryz.prog 9 #[] w fun e w' => e = .returned (.agg (fv forms).toArray) ∧ w.grownBy w' none := by
  have HF := Lib.hid (row_filled w 32 nils (fv forms))
  have HG := Lib.hid (gr_filled w (.cells nils.toArray 32) (fv forms).toArray)
  go_enter Tryz.func9, Tryz.ntmps9
  go_wp2_with (refine wpList_store_row rfl 32 _ _ rfl w.heap.size (fv forms).toArray rfl rfl 32 nils.toArray (Row.fresh w 32 nils) (by kernel_rfl) rfl (by kernel_rfl) ?_)
  exact bodyPost_ret (results_cell_row rfl _ _ w.heap.size 32 (fv forms).toArray (0, 0) _ rfl HF.out Tryz.underlying32 rfl (by kernel_rfl)) rfl ⟨rfl, HG.out⟩

/-- What stands in the table at q and f: a function, and what it answers. -/
def Entry (h q f : Nat) : Prop := ∃ (k : FuncId) (sub : Array Value), (∀ w, (Instr.index 32 (.agg (fv forms).toArray) (.int .i64 (q : Nat))).run Tryz.prog w = .ok (.agg sub) w) ∧
  (∀ w, (Instr.index 31 (.agg sub) (.int .i64 (f : Nat))).run Tryz.prog w = .ok (.func (.func k) #[] #[]) w) ∧
  (∀ args W, (callFunc k args).run Tryz.prog W = .ok (.enter k args) W) ∧
  ∀ w, Calls Tryz.prog k #[.int .u16 h] w fun e w' => e = .returned (.agg (insn 0 (form h q f))) ∧ w.grownBy w' none
theorem entry00 (h : Nat) (hh : h < 65536) : Entry h 0 0 := ⟨17, (fv ((forms.drop 0).take 8)).toArray, fun _ => by kernel_rfl, fun _ => by kernel_rfl, fun _ _ => by kernel_rfl, fun w => cf_addStackTo h hh w⟩
theorem entry01 (h : Nat) (hh : h < 65536) : Entry h 0 1 := ⟨18, (fv ((forms.drop 0).take 8)).toArray, fun _ => by kernel_rfl, fun _ => by kernel_rfl, fun _ _ => by kernel_rfl, fun w => cnone_c h hh w⟩
theorem entry02 (h : Nat) (hh : h < 65536) : Entry h 0 2 := ⟨19, (fv ((forms.drop 0).take 8)).toArray, fun _ => by kernel_rfl, fun _ => by kernel_rfl, fun _ _ => by kernel_rfl, fun w => cf_loadWord h hh w⟩
theorem entry03 (h : Nat) (hh : h < 65536) : Entry h 0 3 := ⟨20, (fv ((forms.drop 0).take 8)).toArray, fun _ => by kernel_rfl, fun _ => by kernel_rfl, fun _ _ => by kernel_rfl, fun w => cf_loadDouble h hh w⟩
theorem entry04 (h : Nat) (hh : h < 65536) : Entry h 0 4 := ⟨18, (fv ((forms.drop 0).take 8)).toArray, fun _ => by kernel_rfl, fun _ => by kernel_rfl, fun _ _ => by kernel_rfl, fun w => cnone_c h hh w⟩
theorem entry05 (h : Nat) (hh : h < 65536) : Entry h 0 5 := ⟨18, (fv ((forms.drop 0).take 8)).toArray, fun _ => by kernel_rfl, fun _ => by kernel_rfl, fun _ _ => by kernel_rfl, fun w => cnone_c h hh w⟩
theorem entry06 (h : Nat) (hh : h < 65536) : Entry h 0 6 := ⟨21, (fv ((forms.drop 0).take 8)).toArray, fun _ => by kernel_rfl, fun _ => by kernel_rfl, fun _ _ => by kernel_rfl, fun w => cf_storeWord h hh w⟩
theorem entry07 (h : Nat) (hh : h < 65536) : Entry h 0 7 := ⟨22, (fv ((forms.drop 0).take 8)).toArray, fun _ => by kernel_rfl, fun _ => by kernel_rfl, fun _ _ => by kernel_rfl, fun w => cf_storeDouble h hh w⟩
theorem entry10 (h : Nat) (hh : h < 65536) : Entry h 1 0 := ⟨23, (fv ((forms.drop 8).take 8)).toArray, fun _ => by kernel_rfl, fun _ => by kernel_rfl, fun _ _ => by kernel_rfl, fun w => cf_addSmall h hh w⟩
theorem entry11 (h : Nat) (hh : h < 65536) : Entry h 1 1 := ⟨24, (fv ((forms.drop 8).take 8)).toArray, fun _ => by kernel_rfl, fun _ => by kernel_rfl, fun _ _ => by kernel_rfl, fun w => cf_addSmall32 h hh w⟩
theorem entry12 (h : Nat) (hh : h < 65536) : Entry h 1 2 := ⟨25, (fv ((forms.drop 8).take 8)).toArray, fun _ => by kernel_rfl, fun _ => by kernel_rfl, fun _ _ => by kernel_rfl, fun w => cf_setSmall h hh w⟩
theorem entry13 (h : Nat) (hh : h < 65536) : Entry h 1 3 := ⟨26, (fv ((forms.drop 8).take 8)).toArray, fun _ => by kernel_rfl, fun _ => by kernel_rfl, fun _ _ => by kernel_rfl, fun w => cf_addStackOrLui h hh w⟩
theorem entry14 (h : Nat) (hh : h < 65536) : Entry h 1 4 := ⟨27, (fv ((forms.drop 8).take 8)).toArray, fun _ => by kernel_rfl, fun _ => by kernel_rfl, fun _ _ => by kernel_rfl, fun w => cf_arithmetic h hh w⟩
theorem entry15 (h : Nat) (hh : h < 65536) : Entry h 1 5 := ⟨28, (fv ((forms.drop 8).take 8)).toArray, fun _ => by kernel_rfl, fun _ => by kernel_rfl, fun _ _ => by kernel_rfl, fun w => cf_jump h hh w⟩
theorem entry16 (h : Nat) (hh : h < 65536) : Entry h 1 6 := ⟨29, (fv ((forms.drop 8).take 8)).toArray, fun _ => by kernel_rfl, fun _ => by kernel_rfl, fun _ _ => by kernel_rfl, fun w => cf_branchZero h hh w⟩
theorem entry17 (h : Nat) (hh : h < 65536) : Entry h 1 7 := ⟨30, (fv ((forms.drop 8).take 8)).toArray, fun _ => by kernel_rfl, fun _ => by kernel_rfl, fun _ _ => by kernel_rfl, fun w => cf_branchOther h hh w⟩
theorem entry20 (h : Nat) (hh : h < 65536) : Entry h 2 0 := ⟨31, (fv ((forms.drop 16).take 8)).toArray, fun _ => by kernel_rfl, fun _ => by kernel_rfl, fun _ _ => by kernel_rfl, fun w => cf_shiftLeft h hh w⟩
theorem entry21 (h : Nat) (hh : h < 65536) : Entry h 2 1 := ⟨18, (fv ((forms.drop 16).take 8)).toArray, fun _ => by kernel_rfl, fun _ => by kernel_rfl, fun _ _ => by kernel_rfl, fun w => cnone_c h hh w⟩
theorem entry22 (h : Nat) (hh : h < 65536) : Entry h 2 2 := ⟨32, (fv ((forms.drop 16).take 8)).toArray, fun _ => by kernel_rfl, fun _ => by kernel_rfl, fun _ _ => by kernel_rfl, fun w => cf_loadWordStack h hh w⟩
theorem entry23 (h : Nat) (hh : h < 65536) : Entry h 2 3 := ⟨33, (fv ((forms.drop 16).take 8)).toArray, fun _ => by kernel_rfl, fun _ => by kernel_rfl, fun _ _ => by kernel_rfl, fun w => cf_loadDoubleStack h hh w⟩
theorem entry24 (h : Nat) (hh : h < 65536) : Entry h 2 4 := ⟨34, (fv ((forms.drop 16).take 8)).toArray, fun _ => by kernel_rfl, fun _ => by kernel_rfl, fun _ _ => by kernel_rfl, fun w => cf_registers h hh w⟩
theorem entry25 (h : Nat) (hh : h < 65536) : Entry h 2 5 := ⟨18, (fv ((forms.drop 16).take 8)).toArray, fun _ => by kernel_rfl, fun _ => by kernel_rfl, fun _ _ => by kernel_rfl, fun w => cnone_c h hh w⟩
theorem entry26 (h : Nat) (hh : h < 65536) : Entry h 2 6 := ⟨35, (fv ((forms.drop 16).take 8)).toArray, fun _ => by kernel_rfl, fun _ => by kernel_rfl, fun _ _ => by kernel_rfl, fun w => cf_storeWordStack h hh w⟩
theorem entry27 (h : Nat) (hh : h < 65536) : Entry h 2 7 := ⟨36, (fv ((forms.drop 16).take 8)).toArray, fun _ => by kernel_rfl, fun _ => by kernel_rfl, fun _ _ => by kernel_rfl, fun w => cf_storeDoubleStack h hh w⟩
theorem entry30 (h : Nat) (hh : h < 65536) : Entry h 3 0 := ⟨18, (fv ((forms.drop 24).take 8)).toArray, fun _ => by kernel_rfl, fun _ => by kernel_rfl, fun _ _ => by kernel_rfl, fun w => cnone_c h hh w⟩
theorem entry31 (h : Nat) (hh : h < 65536) : Entry h 3 1 := ⟨18, (fv ((forms.drop 24).take 8)).toArray, fun _ => by kernel_rfl, fun _ => by kernel_rfl, fun _ _ => by kernel_rfl, fun w => cnone_c h hh w⟩
theorem entry32 (h : Nat) (hh : h < 65536) : Entry h 3 2 := ⟨18, (fv ((forms.drop 24).take 8)).toArray, fun _ => by kernel_rfl, fun _ => by kernel_rfl, fun _ _ => by kernel_rfl, fun w => cnone_c h hh w⟩
theorem entry33 (h : Nat) (hh : h < 65536) : Entry h 3 3 := ⟨18, (fv ((forms.drop 24).take 8)).toArray, fun _ => by kernel_rfl, fun _ => by kernel_rfl, fun _ _ => by kernel_rfl, fun w => cnone_c h hh w⟩
theorem entry34 (h : Nat) (hh : h < 65536) : Entry h 3 4 := ⟨18, (fv ((forms.drop 24).take 8)).toArray, fun _ => by kernel_rfl, fun _ => by kernel_rfl, fun _ _ => by kernel_rfl, fun w => cnone_c h hh w⟩
theorem entry35 (h : Nat) (hh : h < 65536) : Entry h 3 5 := ⟨18, (fv ((forms.drop 24).take 8)).toArray, fun _ => by kernel_rfl, fun _ => by kernel_rfl, fun _ _ => by kernel_rfl, fun w => cnone_c h hh w⟩
theorem entry36 (h : Nat) (hh : h < 65536) : Entry h 3 6 := ⟨18, (fv ((forms.drop 24).take 8)).toArray, fun _ => by kernel_rfl, fun _ => by kernel_rfl, fun _ _ => by kernel_rfl, fun w => cnone_c h hh w⟩
theorem entry37 (h : Nat) (hh : h < 65536) : Entry h 3 7 := ⟨18, (fv ((forms.drop 24).take 8)).toArray, fun _ => by kernel_rfl, fun _ => by kernel_rfl, fun _ _ => by kernel_rfl, fun w => cnone_c h hh w⟩
theorem entry (h q f : Nat) (hh : h < 65536) (hq : q < 4) (hf : f < 8) : Entry h q f := by
  rcases (show q = 0 ∨ q = 1 ∨ q = 2 ∨ q = 3 by omega) with rfl | rfl | rfl | rfl
  · rcases (show f = 0 ∨ f = 1 ∨ f = 2 ∨ f = 3 ∨ f = 4 ∨ f = 5 ∨ f = 6 ∨ f = 7 by omega) with rfl | rfl | rfl | rfl | rfl | rfl | rfl | rfl
    · exact entry00 h hh
    · exact entry01 h hh
    · exact entry02 h hh
    · exact entry03 h hh
    · exact entry04 h hh
    · exact entry05 h hh
    · exact entry06 h hh
    · exact entry07 h hh
  · rcases (show f = 0 ∨ f = 1 ∨ f = 2 ∨ f = 3 ∨ f = 4 ∨ f = 5 ∨ f = 6 ∨ f = 7 by omega) with rfl | rfl | rfl | rfl | rfl | rfl | rfl | rfl
    · exact entry10 h hh
    · exact entry11 h hh
    · exact entry12 h hh
    · exact entry13 h hh
    · exact entry14 h hh
    · exact entry15 h hh
    · exact entry16 h hh
    · exact entry17 h hh
  · rcases (show f = 0 ∨ f = 1 ∨ f = 2 ∨ f = 3 ∨ f = 4 ∨ f = 5 ∨ f = 6 ∨ f = 7 by omega) with rfl | rfl | rfl | rfl | rfl | rfl | rfl | rfl
    · exact entry20 h hh
    · exact entry21 h hh
    · exact entry22 h hh
    · exact entry23 h hh
    · exact entry24 h hh
    · exact entry25 h hh
    · exact entry26 h hh
    · exact entry27 h hh
  · rcases (show f = 0 ∨ f = 1 ∨ f = 2 ∨ f = 3 ∨ f = 4 ∨ f = 5 ∨ f = 6 ∨ f = 7 by omega) with rfl | rfl | rfl | rfl | rfl | rfl | rfl | rfl
    · exact entry30 h hh
    · exact entry31 h hh
    · exact entry32 h hh
    · exact entry33 h hh
    · exact entry34 h hh
    · exact entry35 h hh
    · exact entry36 h hh
    · exact entry37 h hh

set_option maxHeartbeats 4000000 in
theorem Half_c (h : Nat) (hh : h < 65536) (w : World) :
    Calls Tryz.prog 5 #[.int .u16 h] w fun e w' => e = .returned (.agg (insn 2 (halfV h))) ∧ w.grownBy w' none := by
  have HR := Lib.hid (Row.fresh w 26 six0)
  have hq := get_lt h 0 2
  have hf := get_lt h 13 3
  have gq : gI h 0 2 = (F.get h 0 2 : Nat) := rfl
  have gf : gI h 13 3 = (F.get h 13 3 : Nat) := rfl
  obtain ⟨k, sub, hI, hJ, hcf, hC⟩ := entry h _ _ hh hq hf
  rw [halfV, formV]
  generalize F.get h 0 2 = q at *
  generalize F.get h 13 3 = f at *
  have HC := Lib.hid hC
  clear hC
  have HF := Lib.hid forms_c
  generalize (fv forms).toArray = A at *
  generalize form h q f = p at *
  obtain ⟨o, rd, rs1, rs2, im⟩ := p
  simp only
  by_cases h0 : o = 0
  · rw [if_pos h0]
    subst h0
    go_enter Tryz.func5, Tryz.ntmps5
    go_wp2_with fail
    go_region_with (first
      | (go_at_call 9; refine (HF.out _).mono ?_; rintro e w1 ⟨rfl, hG⟩)
      | (go_at_call 10; refine (cgetI_c h _ _ hh (by decide) (by decide) _).mono ?_; rintro e w2 ⟨rfl, rfl⟩))
    all_goals
      have G1 := Lib.hid (gr_trans (gr_drewN (gr_refl (w.alloc (.cells six0.toArray 26)) none) _) hG)
      clear hG
      go_wp2_with fail
      refine (HC.out _).mono ?_
      rintro e w3 ⟨rfl, hG3⟩
      simp only [insn]
      have hR := Lib.hid (HR.out.grown (gr_trans G1.out hG3) (by simp)); have k0 := hR.out.cell 0; have k1 := hR.out.cell 1; have k2 := hR.out.cell 2; have k3 := hR.out.cell 3; have k4 := hR.out.cell 4; have k5 := hR.out.cell 5; have kz := hR.out.free; simp only [six0, List.getElem?_cons_zero, List.getElem?_cons_succ] at k0 k1 k2 k3 k4 k5
      have hlt := hR.out.lt
      go_wp2_with fail
      exact six_ret rfl rfl rfl ((six hR.out rfl _ _ _ _ _ _).alloc _) ⟨rfl, gr_alloc (six_gr (gr_trans (gr_trans (gr_alloc (gr_refl _ _) _) G1.out) hG3) (Nat.le_refl _) _ _ _ _ _ _) _⟩
  · rw [if_neg h0]
    have d0 : (o == 0) = false := by simpa using h0
    go_enter Tryz.func5, Tryz.ntmps5
    go_wp2_with fail
    go_region_with (first
      | (go_at_call 9; refine (HF.out _).mono ?_; rintro e w1 ⟨rfl, hG⟩)
      | (go_at_call 10; refine (cgetI_c h _ _ hh (by decide) (by decide) _).mono ?_; rintro e w2 ⟨rfl, rfl⟩))
    all_goals
      have G1 := Lib.hid (gr_trans (gr_drewN (gr_refl (w.alloc (.cells six0.toArray 26)) none) _) hG)
      clear hG
      go_wp2_with fail
      refine (HC.out _).mono ?_
      rintro e w3 ⟨rfl, hG3⟩
      simp only [insn]
      have hR := Lib.hid (HR.out.grown (gr_trans G1.out hG3) (by simp)); have k0 := hR.out.cell 0; have k1 := hR.out.cell 1; have k2 := hR.out.cell 2; have k3 := hR.out.cell 3; have k4 := hR.out.cell 4; have k5 := hR.out.cell 5; have kz := hR.out.free; simp only [six0, List.getElem?_cons_zero, List.getElem?_cons_succ] at k0 k1 k2 k3 k4 k5
      have hlt := hR.out.lt
      go_wp2_with fail
      exact six_ret rfl rfl rfl ((six hR.out rfl _ _ _ _ _ _).alloc _) ⟨rfl, gr_alloc (six_gr (gr_trans (gr_trans (gr_alloc (gr_refl _ _) _) G1.out) hG3) (Nat.le_refl _) _ _ _ _ _ _) _⟩
end Go.Proofs.YthdjbmajdbfebaaGreat
