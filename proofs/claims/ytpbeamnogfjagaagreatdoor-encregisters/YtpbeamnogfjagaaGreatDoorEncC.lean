/-
  What package enc's Word is: contracts over the program's translation, down to the parts of a word.
  Conditions: the arguments are numbers of their kinds; the table of package decode's kinds holds what the program's text lays.
-/
import Derived.Test.YtpbeamnogfjagaaGreatDoorEncT
import Derived.Test.YtpbeamnogfjagaaGreatDoorFieldG
import Derived.Lib.Hide
import Derived.Deep.RegionHeld3
namespace Go.Proofs.YtpbeamnogfjagaaGreatDoor.E
open Go Go.RowKit Go.Maps F W M D
set_option linter.unusedVariables false
set_option maxRecDepth 100000

abbrev I64 (n : Int) : Prop := -9223372036854775808 ≤ n ∧ n ≤ 9223372036854775807
theorem kind0 {o : Int} (h : o ≤ 0) : kindV o = 0 := kind_at o 0 (by decide) h (Or.inl rfl)
theorem kind1 {o : Int} (h : 1 ≤ o ∧ o ≤ 4) : kindV o = 1 := kind_at o 1 (by decide) (show o ≤ 4 by omega) (Or.inr (show (0 : Int) < o by omega))
theorem kind2 {o : Int} (h : 5 ≤ o ∧ o ≤ 10) : kindV o = 2 := kind_at o 2 (by decide) (show o ≤ 10 by omega) (Or.inr (show (4 : Int) < o by omega))
theorem kind3 {o : Int} (h : 11 ≤ o ∧ o ≤ 17) : kindV o = 3 := kind_at o 3 (by decide) (show o ≤ 17 by omega) (Or.inr (show (10 : Int) < o by omega))
theorem kind4 {o : Int} (h : 18 ≤ o ∧ o ≤ 21) : kindV o = 4 := kind_at o 4 (by decide) (show o ≤ 21 by omega) (Or.inr (show (17 : Int) < o by omega))
theorem kind5 {o : Int} (h : 22 ≤ o ∧ o ≤ 30) : kindV o = 5 := kind_at o 5 (by decide) (show o ≤ 30 by omega) (Or.inr (show (21 : Int) < o by omega))
theorem kind6 {o : Int} (h : 31 ≤ o ∧ o ≤ 40) : kindV o = 6 := kind_at o 6 (by decide) (show o ≤ 40 by omega) (Or.inr (show (30 : Int) < o by omega))
theorem kind7 {o : Int} (h : 41 ≤ o ∧ o ≤ 44) : kindV o = 7 := kind_at o 7 (by decide) (show o ≤ 44 by omega) (Or.inr (show (40 : Int) < o by omega))
theorem kind8 {o : Int} (h : 45 ≤ o ∧ o ≤ 49) : kindV o = 8 := kind_at o 8 (by decide) (show o ≤ 49 by omega) (Or.inr (show (44 : Int) < o by omega))
theorem kind9 {o : Int} (h : 50 ≤ o ∧ o ≤ 57) : kindV o = 9 := kind_at o 9 (by decide) (show o ≤ 57 by omega) (Or.inr (show (49 : Int) < o by omega))
theorem kind10 {o : Int} (h : 58 ≤ o ∧ o ≤ 62) : kindV o = 10 := kind_at o 10 (by decide) (show o ≤ 62 by omega) (Or.inr (show (57 : Int) < o by omega))
theorem kind11 {o : Int} (h : 63 ≤ o ∧ o ≤ 69) : kindV o = 11 := kind_at o 11 (by decide) (show o ≤ 69 by omega) (Or.inr (show (62 : Int) < o by omega))
theorem kind12 {o : Int} (h : 70 ≤ o ∧ o ≤ 75) : kindV o = 12 := kind_at o 12 (by decide) (show o ≤ 75 by omega) (Or.inr (show (69 : Int) < o by omega))
theorem kind13 {o : Int} (h : 76 ≤ o ∧ o ≤ 86) : kindV o = 13 := kind_at o 13 (by decide) (show o ≤ 86 by omega) (Or.inr (show (75 : Int) < o by omega))
theorem kind14 {o : Int} (h : 87 ≤ o ∧ o ≤ 97) : kindV o = 14 := kind_at o 14 (by decide) (show o ≤ 97 by omega) (Or.inr (show (86 : Int) < o by omega))
theorem look1 {o : Int} (h : 1 ≤ o ∧ o ≤ 4) : D.look t_jumps o = (baseV o : Nat) := by
  have := rng_at (a := 1) (b := 4) (P := fun o => decide (D.look t_jumps o = (baseV o : Nat))) (by decide +kernel) o (by omega)
  exact of_decide_eq_true this
theorem look2 {o : Int} (h : 5 ≤ o ∧ o ≤ 10) : D.look t_branches o = (baseV o : Nat) := by
  have := rng_at (a := 5) (b := 10) (P := fun o => decide (D.look t_branches o = (baseV o : Nat))) (by decide +kernel) o (by omega)
  exact of_decide_eq_true this
theorem look3 {o : Int} (h : 11 ≤ o ∧ o ≤ 17) : D.look t_loads o = (baseV o : Nat) := by
  have := rng_at (a := 11) (b := 17) (P := fun o => decide (D.look t_loads o = (baseV o : Nat))) (by decide +kernel) o (by omega)
  exact of_decide_eq_true this
theorem look4 {o : Int} (h : 18 ≤ o ∧ o ≤ 21) : D.look t_stores o = (baseV o : Nat) := by
  have := rng_at (a := 18) (b := 21) (P := fun o => decide (D.look t_stores o = (baseV o : Nat))) (by decide +kernel) o (by omega)
  exact of_decide_eq_true this
theorem look5 {o : Int} (h : 22 ≤ o ∧ o ≤ 30) : D.look t_numbers o = (baseV o : Nat) := by
  have := rng_at (a := 22) (b := 30) (P := fun o => decide (D.look t_numbers o = (baseV o : Nat))) (by decide +kernel) o (by omega)
  exact of_decide_eq_true this
theorem look6 {o : Int} (h : 31 ≤ o ∧ o ≤ 40) : D.look t_registers o = (baseV o : Nat) := by
  have := rng_at (a := 31) (b := 40) (P := fun o => decide (D.look t_registers o = (baseV o : Nat))) (by decide +kernel) o (by omega)
  exact of_decide_eq_true this
theorem look7 {o : Int} (h : 41 ≤ o ∧ o ≤ 44) : D.look t_numbers32 o = (baseV o : Nat) := by
  have := rng_at (a := 41) (b := 44) (P := fun o => decide (D.look t_numbers32 o = (baseV o : Nat))) (by decide +kernel) o (by omega)
  exact of_decide_eq_true this
theorem look8 {o : Int} (h : 45 ≤ o ∧ o ≤ 49) : D.look t_registers32 o = (baseV o : Nat) := by
  have := rng_at (a := 45) (b := 49) (P := fun o => decide (D.look t_registers32 o = (baseV o : Nat))) (by decide +kernel) o (by omega)
  exact of_decide_eq_true this
theorem look9 {o : Int} (h : 50 ≤ o ∧ o ≤ 57) : D.look t_products o = (baseV o : Nat) := by
  have := rng_at (a := 50) (b := 57) (P := fun o => decide (D.look t_products o = (baseV o : Nat))) (by decide +kernel) o (by omega)
  exact of_decide_eq_true this
theorem look10 {o : Int} (h : 58 ≤ o ∧ o ≤ 62) : D.look t_products32 o = (baseV o : Nat) := by
  have := rng_at (a := 58) (b := 62) (P := fun o => decide (D.look t_products32 o = (baseV o : Nat))) (by decide +kernel) o (by omega)
  exact of_decide_eq_true this
theorem look11 {o : Int} (h : 63 ≤ o ∧ o ≤ 69) : D.look t_systems o = (baseV o : Nat) := by
  have := rng_at (a := 63) (b := 69) (P := fun o => decide (D.look t_systems o = (baseV o : Nat))) (by decide +kernel) o (by omega)
  exact of_decide_eq_true this
theorem look12 {o : Int} (h : 70 ≤ o ∧ o ≤ 75) : D.look t_csrs o = (baseV o : Nat) := by
  have := rng_at (a := 70) (b := 75) (P := fun o => decide (D.look t_csrs o = (baseV o : Nat))) (by decide +kernel) o (by omega)
  exact of_decide_eq_true this
theorem look13 {o : Int} (h : 76 ≤ o ∧ o ≤ 86) : D.look t_atomics o = (baseV o : Nat) := by
  have := rng_at (a := 76) (b := 86) (P := fun o => decide (D.look t_atomics o = (baseV o : Nat))) (by decide +kernel) o (by omega)
  exact of_decide_eq_true this
theorem look14 {o : Int} (h : 87 ≤ o ∧ o ≤ 97) : 0 ≤ D.look t_atomics (o - 11) ∧ D.look t_atomics (o - 11) ≤ 4294967295 ∧ bits .or .u32 (D.look t_atomics (o - 11)) 4096 = (baseV o : Nat) := by
  have := rng_at (a := 87) (b := 97) (P := fun o => decide (0 ≤ D.look t_atomics (o - 11) ∧ D.look t_atomics (o - 11) ≤ 4294967295 ∧ bits .or .u32 (D.look t_atomics (o - 11)) 4096 = (baseV o : Nat))) (by decide +kernel) o (by omega)
  exact of_decide_eq_true this
theorem base_no {o : Int} (h : o ≤ 0 ∨ 97 < o) : baseV o = 0 := by
  rcases h with h | h
  · have : o.toNat = 0 := by omega
    simp [baseV, fldsOf, this, fldL, baseOf]
  · have : 98 ≤ o.toNat := by omega
    have e : fldsOf o = [] := by rw [fldsOf, List.getD_eq_getElem?_getD, List.getElem?_eq_none (by simpa [fldL] using this)]; rfl
    simp [baseV, e, baseOf]
set_option maxHeartbeats 1000000 in
theorem least_no (o : Int) (ho : I64 o) (h : o ≤ 0 ∨ 97 < o) (w : World) (hT : Tbl w) :
    Calls Tryz.prog 36 #[.int .i64 o] w fun e w' => e = .returned (.int .u32 (baseV o : Nat)) ∧ w.grownBy w' none := by
  have hk : kindV o = 0 := by rcases h with h | h; exact kind0 h; exact kind_none o h
  have HB := Lib.hid (base_no h)
  rw [HB.out]
  clear h
  go_enter Tryz.func36, Tryz.ntmps36
  go_wp2_with fail
  refine (Kind_c o ho _ hT).mono ?_
  rintro e w' ⟨rfl, rfl⟩
  rw [hk]
  go_wp2_with fail
  go_ret
  exact ⟨rfl, gr_refl _ _⟩
set_option maxHeartbeats 1000000 in
theorem least1 (o : Int) (ho : 1 ≤ o ∧ o ≤ 4) (w : World) (hT : Tbl w) :
    Calls Tryz.prog 36 #[.int .i64 o] w fun e w' => e = .returned (.int .u32 (baseV o : Nat)) ∧ w.grownBy w' none := by
  have hk : kindV o = 1 := kind1 ho
  have HL := Lib.hid (look1 ho)
  go_enter Tryz.func36, Tryz.ntmps36
  go_wp2_with fail
  refine (Kind_c o (by omega) _ hT).mono ?_
  rintro e w' ⟨rfl, rfl⟩
  rw [hk]
  go_wp2_with fail
  refine (jumps_c _).mono ?_
  rintro e w1 ⟨m, rfl, hM, hG⟩
  have hl := hM.look o (by omega)
  rw [HL.out] at hl
  obtain ⟨v, hv⟩ : ∃ v : Int, v = (baseV o : Nat) := ⟨_, rfl⟩
  rw [← hv] at hl
  have HV := Lib.hid hv
  clear hv
  go_wp2_with fail
  go_ret
  exact ⟨ret_int HV.out, hG⟩
set_option maxHeartbeats 1000000 in
theorem least2 (o : Int) (ho : 5 ≤ o ∧ o ≤ 10) (w : World) (hT : Tbl w) :
    Calls Tryz.prog 36 #[.int .i64 o] w fun e w' => e = .returned (.int .u32 (baseV o : Nat)) ∧ w.grownBy w' none := by
  have hk : kindV o = 2 := kind2 ho
  have HL := Lib.hid (look2 ho)
  go_enter Tryz.func36, Tryz.ntmps36
  go_wp2_with fail
  refine (Kind_c o (by omega) _ hT).mono ?_
  rintro e w' ⟨rfl, rfl⟩
  rw [hk]
  go_wp2_with fail
  refine (branches_c _).mono ?_
  rintro e w1 ⟨m, rfl, hM, hG⟩
  have hl := hM.look o (by omega)
  rw [HL.out] at hl
  obtain ⟨v, hv⟩ : ∃ v : Int, v = (baseV o : Nat) := ⟨_, rfl⟩
  rw [← hv] at hl
  have HV := Lib.hid hv
  clear hv
  go_wp2_with fail
  go_ret
  exact ⟨ret_int HV.out, hG⟩
set_option maxHeartbeats 1000000 in
theorem least3 (o : Int) (ho : 11 ≤ o ∧ o ≤ 17) (w : World) (hT : Tbl w) :
    Calls Tryz.prog 36 #[.int .i64 o] w fun e w' => e = .returned (.int .u32 (baseV o : Nat)) ∧ w.grownBy w' none := by
  have hk : kindV o = 3 := kind3 ho
  have HL := Lib.hid (look3 ho)
  go_enter Tryz.func36, Tryz.ntmps36
  go_wp2_with fail
  refine (Kind_c o (by omega) _ hT).mono ?_
  rintro e w' ⟨rfl, rfl⟩
  rw [hk]
  go_wp2_with fail
  refine (loads_c _).mono ?_
  rintro e w1 ⟨m, rfl, hM, hG⟩
  have hl := hM.look o (by omega)
  rw [HL.out] at hl
  obtain ⟨v, hv⟩ : ∃ v : Int, v = (baseV o : Nat) := ⟨_, rfl⟩
  rw [← hv] at hl
  have HV := Lib.hid hv
  clear hv
  go_wp2_with fail
  go_ret
  exact ⟨ret_int HV.out, hG⟩
set_option maxHeartbeats 1000000 in
theorem least4 (o : Int) (ho : 18 ≤ o ∧ o ≤ 21) (w : World) (hT : Tbl w) :
    Calls Tryz.prog 36 #[.int .i64 o] w fun e w' => e = .returned (.int .u32 (baseV o : Nat)) ∧ w.grownBy w' none := by
  have hk : kindV o = 4 := kind4 ho
  have HL := Lib.hid (look4 ho)
  go_enter Tryz.func36, Tryz.ntmps36
  go_wp2_with fail
  refine (Kind_c o (by omega) _ hT).mono ?_
  rintro e w' ⟨rfl, rfl⟩
  rw [hk]
  go_wp2_with fail
  refine (stores_c _).mono ?_
  rintro e w1 ⟨m, rfl, hM, hG⟩
  have hl := hM.look o (by omega)
  rw [HL.out] at hl
  obtain ⟨v, hv⟩ : ∃ v : Int, v = (baseV o : Nat) := ⟨_, rfl⟩
  rw [← hv] at hl
  have HV := Lib.hid hv
  clear hv
  go_wp2_with fail
  go_ret
  exact ⟨ret_int HV.out, hG⟩
set_option maxHeartbeats 1000000 in
theorem least5 (o : Int) (ho : 22 ≤ o ∧ o ≤ 30) (w : World) (hT : Tbl w) :
    Calls Tryz.prog 36 #[.int .i64 o] w fun e w' => e = .returned (.int .u32 (baseV o : Nat)) ∧ w.grownBy w' none := by
  have hk : kindV o = 5 := kind5 ho
  have HL := Lib.hid (look5 ho)
  go_enter Tryz.func36, Tryz.ntmps36
  go_wp2_with fail
  refine (Kind_c o (by omega) _ hT).mono ?_
  rintro e w' ⟨rfl, rfl⟩
  rw [hk]
  go_wp2_with fail
  refine (numbers_c _).mono ?_
  rintro e w1 ⟨m, rfl, hM, hG⟩
  have hl := hM.look o (by omega)
  rw [HL.out] at hl
  obtain ⟨v, hv⟩ : ∃ v : Int, v = (baseV o : Nat) := ⟨_, rfl⟩
  rw [← hv] at hl
  have HV := Lib.hid hv
  clear hv
  go_wp2_with fail
  go_ret
  exact ⟨ret_int HV.out, hG⟩
set_option maxHeartbeats 1000000 in
theorem least6 (o : Int) (ho : 31 ≤ o ∧ o ≤ 40) (w : World) (hT : Tbl w) :
    Calls Tryz.prog 36 #[.int .i64 o] w fun e w' => e = .returned (.int .u32 (baseV o : Nat)) ∧ w.grownBy w' none := by
  have hk : kindV o = 6 := kind6 ho
  have HL := Lib.hid (look6 ho)
  go_enter Tryz.func36, Tryz.ntmps36
  go_wp2_with fail
  refine (Kind_c o (by omega) _ hT).mono ?_
  rintro e w' ⟨rfl, rfl⟩
  rw [hk]
  go_wp2_with fail
  refine (registers_c _).mono ?_
  rintro e w1 ⟨m, rfl, hM, hG⟩
  have hl := hM.look o (by omega)
  rw [HL.out] at hl
  obtain ⟨v, hv⟩ : ∃ v : Int, v = (baseV o : Nat) := ⟨_, rfl⟩
  rw [← hv] at hl
  have HV := Lib.hid hv
  clear hv
  go_wp2_with fail
  go_ret
  exact ⟨ret_int HV.out, hG⟩
set_option maxHeartbeats 1000000 in
theorem least7 (o : Int) (ho : 41 ≤ o ∧ o ≤ 44) (w : World) (hT : Tbl w) :
    Calls Tryz.prog 36 #[.int .i64 o] w fun e w' => e = .returned (.int .u32 (baseV o : Nat)) ∧ w.grownBy w' none := by
  have hk : kindV o = 7 := kind7 ho
  have HL := Lib.hid (look7 ho)
  go_enter Tryz.func36, Tryz.ntmps36
  go_wp2_with fail
  refine (Kind_c o (by omega) _ hT).mono ?_
  rintro e w' ⟨rfl, rfl⟩
  rw [hk]
  go_wp2_with fail
  refine (numbers32_c _).mono ?_
  rintro e w1 ⟨m, rfl, hM, hG⟩
  have hl := hM.look o (by omega)
  rw [HL.out] at hl
  obtain ⟨v, hv⟩ : ∃ v : Int, v = (baseV o : Nat) := ⟨_, rfl⟩
  rw [← hv] at hl
  have HV := Lib.hid hv
  clear hv
  go_wp2_with fail
  go_ret
  exact ⟨ret_int HV.out, hG⟩
set_option maxHeartbeats 1000000 in
theorem least8 (o : Int) (ho : 45 ≤ o ∧ o ≤ 49) (w : World) (hT : Tbl w) :
    Calls Tryz.prog 36 #[.int .i64 o] w fun e w' => e = .returned (.int .u32 (baseV o : Nat)) ∧ w.grownBy w' none := by
  have hk : kindV o = 8 := kind8 ho
  have HL := Lib.hid (look8 ho)
  go_enter Tryz.func36, Tryz.ntmps36
  go_wp2_with fail
  refine (Kind_c o (by omega) _ hT).mono ?_
  rintro e w' ⟨rfl, rfl⟩
  rw [hk]
  go_wp2_with fail
  refine (registers32_c _).mono ?_
  rintro e w1 ⟨m, rfl, hM, hG⟩
  have hl := hM.look o (by omega)
  rw [HL.out] at hl
  obtain ⟨v, hv⟩ : ∃ v : Int, v = (baseV o : Nat) := ⟨_, rfl⟩
  rw [← hv] at hl
  have HV := Lib.hid hv
  clear hv
  go_wp2_with fail
  go_ret
  exact ⟨ret_int HV.out, hG⟩
set_option maxHeartbeats 1000000 in
theorem least9 (o : Int) (ho : 50 ≤ o ∧ o ≤ 57) (w : World) (hT : Tbl w) :
    Calls Tryz.prog 36 #[.int .i64 o] w fun e w' => e = .returned (.int .u32 (baseV o : Nat)) ∧ w.grownBy w' none := by
  have hk : kindV o = 9 := kind9 ho
  have HL := Lib.hid (look9 ho)
  go_enter Tryz.func36, Tryz.ntmps36
  go_wp2_with fail
  refine (Kind_c o (by omega) _ hT).mono ?_
  rintro e w' ⟨rfl, rfl⟩
  rw [hk]
  go_wp2_with fail
  refine (products_c _).mono ?_
  rintro e w1 ⟨m, rfl, hM, hG⟩
  have hl := hM.look o (by omega)
  rw [HL.out] at hl
  obtain ⟨v, hv⟩ : ∃ v : Int, v = (baseV o : Nat) := ⟨_, rfl⟩
  rw [← hv] at hl
  have HV := Lib.hid hv
  clear hv
  go_wp2_with fail
  go_ret
  exact ⟨ret_int HV.out, hG⟩
set_option maxHeartbeats 1000000 in
theorem least10 (o : Int) (ho : 58 ≤ o ∧ o ≤ 62) (w : World) (hT : Tbl w) :
    Calls Tryz.prog 36 #[.int .i64 o] w fun e w' => e = .returned (.int .u32 (baseV o : Nat)) ∧ w.grownBy w' none := by
  have hk : kindV o = 10 := kind10 ho
  have HL := Lib.hid (look10 ho)
  go_enter Tryz.func36, Tryz.ntmps36
  go_wp2_with fail
  refine (Kind_c o (by omega) _ hT).mono ?_
  rintro e w' ⟨rfl, rfl⟩
  rw [hk]
  go_wp2_with fail
  refine (products32_c _).mono ?_
  rintro e w1 ⟨m, rfl, hM, hG⟩
  have hl := hM.look o (by omega)
  rw [HL.out] at hl
  obtain ⟨v, hv⟩ : ∃ v : Int, v = (baseV o : Nat) := ⟨_, rfl⟩
  rw [← hv] at hl
  have HV := Lib.hid hv
  clear hv
  go_wp2_with fail
  go_ret
  exact ⟨ret_int HV.out, hG⟩
set_option maxHeartbeats 1000000 in
theorem least11 (o : Int) (ho : 63 ≤ o ∧ o ≤ 69) (w : World) (hT : Tbl w) :
    Calls Tryz.prog 36 #[.int .i64 o] w fun e w' => e = .returned (.int .u32 (baseV o : Nat)) ∧ w.grownBy w' none := by
  have hk : kindV o = 11 := kind11 ho
  have HL := Lib.hid (look11 ho)
  go_enter Tryz.func36, Tryz.ntmps36
  go_wp2_with fail
  refine (Kind_c o (by omega) _ hT).mono ?_
  rintro e w' ⟨rfl, rfl⟩
  rw [hk]
  go_wp2_with fail
  refine (systems_c _).mono ?_
  rintro e w1 ⟨m, rfl, hM, hG⟩
  have hl := hM.look o (by omega)
  rw [HL.out] at hl
  obtain ⟨v, hv⟩ : ∃ v : Int, v = (baseV o : Nat) := ⟨_, rfl⟩
  rw [← hv] at hl
  have HV := Lib.hid hv
  clear hv
  go_wp2_with fail
  go_ret
  exact ⟨ret_int HV.out, hG⟩
set_option maxHeartbeats 1000000 in
theorem least12 (o : Int) (ho : 70 ≤ o ∧ o ≤ 75) (w : World) (hT : Tbl w) :
    Calls Tryz.prog 36 #[.int .i64 o] w fun e w' => e = .returned (.int .u32 (baseV o : Nat)) ∧ w.grownBy w' none := by
  have hk : kindV o = 12 := kind12 ho
  have HL := Lib.hid (look12 ho)
  go_enter Tryz.func36, Tryz.ntmps36
  go_wp2_with fail
  refine (Kind_c o (by omega) _ hT).mono ?_
  rintro e w' ⟨rfl, rfl⟩
  rw [hk]
  go_wp2_with fail
  refine (csrs_c _).mono ?_
  rintro e w1 ⟨m, rfl, hM, hG⟩
  have hl := hM.look o (by omega)
  rw [HL.out] at hl
  obtain ⟨v, hv⟩ : ∃ v : Int, v = (baseV o : Nat) := ⟨_, rfl⟩
  rw [← hv] at hl
  have HV := Lib.hid hv
  clear hv
  go_wp2_with fail
  go_ret
  exact ⟨ret_int HV.out, hG⟩
set_option maxHeartbeats 1000000 in
theorem least13 (o : Int) (ho : 76 ≤ o ∧ o ≤ 86) (w : World) (hT : Tbl w) :
    Calls Tryz.prog 36 #[.int .i64 o] w fun e w' => e = .returned (.int .u32 (baseV o : Nat)) ∧ w.grownBy w' none := by
  have hk : kindV o = 13 := kind13 ho
  have HL := Lib.hid (look13 ho)
  go_enter Tryz.func36, Tryz.ntmps36
  go_wp2_with fail
  refine (Kind_c o (by omega) _ hT).mono ?_
  rintro e w' ⟨rfl, rfl⟩
  rw [hk]
  go_wp2_with fail
  refine (atomics_c _).mono ?_
  rintro e w1 ⟨m, rfl, hM, hG⟩
  have hl := hM.look o (by omega)
  rw [HL.out] at hl
  obtain ⟨v, hv⟩ : ∃ v : Int, v = (baseV o : Nat) := ⟨_, rfl⟩
  rw [← hv] at hl
  have HV := Lib.hid hv
  clear hv
  go_wp2_with fail
  go_ret
  exact ⟨ret_int HV.out, hG⟩
set_option maxHeartbeats 1000000 in
theorem least14 (o : Int) (ho : 87 ≤ o ∧ o ≤ 97) (w : World) (hT : Tbl w) :
    Calls Tryz.prog 36 #[.int .i64 o] w fun e w' => e = .returned (.int .u32 (baseV o : Nat)) ∧ w.grownBy w' none := by
  have hk : kindV o = 14 := kind14 ho
  have HL := Lib.hid (look14 ho)
  go_enter Tryz.func36, Tryz.ntmps36
  go_wp2_with fail
  refine (Kind_c o (by omega) _ hT).mono ?_
  rintro e w' ⟨rfl, rfl⟩
  rw [hk]
  go_wp2_with fail
  refine (atomics_c _).mono ?_
  rintro e w1 ⟨m, rfl, hM, hG⟩
  have hl := hM.look (o - 11) (by omega)
  obtain ⟨l1, l2, l3⟩ := HL.out
  have L3 := Lib.hid l3
  clear l3 HL
  generalize D.look t_atomics (o - 11) = v at *
  go_wp2_with fail
  go_ret
  exact ⟨ret_int L3.out, hG⟩
theorem least_c (o : Int) (ho : I64 o) (w : World) (hT : Tbl w) :
    Calls Tryz.prog 36 #[.int .i64 o] w fun e w' => e = .returned (.int .u32 (baseV o : Nat)) ∧ w.grownBy w' none := by
  rcases (show (o ≤ 0 ∨ 97 < o) ∨ (1 ≤ o ∧ o ≤ 4) ∨ (5 ≤ o ∧ o ≤ 10) ∨ (11 ≤ o ∧ o ≤ 17) ∨ (18 ≤ o ∧ o ≤ 21) ∨ (22 ≤ o ∧ o ≤ 30) ∨ (31 ≤ o ∧ o ≤ 40) ∨ (41 ≤ o ∧ o ≤ 44) ∨ (45 ≤ o ∧ o ≤ 49) ∨ (50 ≤ o ∧ o ≤ 57) ∨ (58 ≤ o ∧ o ≤ 62) ∨ (63 ≤ o ∧ o ≤ 69) ∨ (70 ≤ o ∧ o ≤ 75) ∨ (76 ≤ o ∧ o ≤ 86) ∨ (87 ≤ o ∧ o ≤ 97) by omega) with h | h | h | h | h | h | h | h | h | h | h | h | h | h | h
  · exact least_no o ho h w hT
  · exact least1 o h w hT
  · exact least2 o h w hT
  · exact least3 o h w hT
  · exact least4 o h w hT
  · exact least5 o h w hT
  · exact least6 o h w hT
  · exact least7 o h w hT
  · exact least8 o h w hT
  · exact least9 o h w hT
  · exact least10 o h w hT
  · exact least11 o h w hT
  · exact least12 o h w hT
  · exact least13 o h w hT
  · exact least14 o h w hT
end Go.Proofs.YtpbeamnogfjagaaGreatDoor.E
