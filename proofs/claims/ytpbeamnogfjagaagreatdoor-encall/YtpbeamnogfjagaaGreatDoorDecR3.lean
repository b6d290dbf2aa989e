/-
  What the document's own op (package suzerainref04) is: a contract over the translation, by the program's plain functions.
  Conditions: the argument is a word.
-/
import Derived.Test.YtpbeamnogfjagaaGreatDoorDecR2
namespace Go.Proofs.YtpbeamnogfjagaaGreatDoor
open Go Go.RowKit F W M D
set_option linter.unusedVariables false
set_option maxRecDepth 100000

set_option maxHeartbeats 2000000 in
theorem rop55_c (x : Nat) (hx : x < 4294967296) (h : get x 0 7 = 55) (w : World) :
    Calls Tryz.prog 26 #[.int .u32 x] w fun e w' => e = .returned (.int .i64 (mean x).1) ∧ w.grownBy w' none := by
  have em : mean x = (1, tgt x (immV x 4)) := by simp [mean, h]
  rw [em]
  clear em
  have h8 := g8 x
  go_enter Tryz.func26, Tryz.ntmps26
  go_wp2_with fail
  refine (rGet_n x 12 3 hx (by omega) (by omega) _).mono ?_
  rintro e w' ⟨rfl, rfl⟩
  generalize get x 12 3 = g at *
  go_wp2_with fail
  refine (rGet_n x 0 7 hx (by omega) (by omega) _).mono ?_
  rintro e w' ⟨rfl, rfl⟩
  rw [h]
  go_wp2_with fail
  go_ret
  exact ⟨rfl, gr_refl _ _⟩
set_option maxHeartbeats 2000000 in
theorem rop23_c (x : Nat) (hx : x < 4294967296) (h : get x 0 7 = 23) (w : World) :
    Calls Tryz.prog 26 #[.int .u32 x] w fun e w' => e = .returned (.int .i64 (mean x).1) ∧ w.grownBy w' none := by
  have em : mean x = (2, tgt x (immV x 4)) := by simp [mean, h]
  rw [em]
  clear em
  have h8 := g8 x
  go_enter Tryz.func26, Tryz.ntmps26
  go_wp2_with fail
  refine (rGet_n x 12 3 hx (by omega) (by omega) _).mono ?_
  rintro e w' ⟨rfl, rfl⟩
  generalize get x 12 3 = g at *
  go_wp2_with fail
  refine (rGet_n x 0 7 hx (by omega) (by omega) _).mono ?_
  rintro e w' ⟨rfl, rfl⟩
  rw [h]
  go_wp2_with fail
  go_ret
  exact ⟨rfl, gr_refl _ _⟩
set_option maxHeartbeats 2000000 in
theorem rop111_c (x : Nat) (hx : x < 4294967296) (h : get x 0 7 = 111) (w : World) :
    Calls Tryz.prog 26 #[.int .u32 x] w fun e w' => e = .returned (.int .i64 (mean x).1) ∧ w.grownBy w' none := by
  have em : mean x = (3, tgt x (immV x 5)) := by simp [mean, h]
  rw [em]
  clear em
  have h8 := g8 x
  go_enter Tryz.func26, Tryz.ntmps26
  go_wp2_with fail
  refine (rGet_n x 12 3 hx (by omega) (by omega) _).mono ?_
  rintro e w' ⟨rfl, rfl⟩
  generalize get x 12 3 = g at *
  go_wp2_with fail
  refine (rGet_n x 0 7 hx (by omega) (by omega) _).mono ?_
  rintro e w' ⟨rfl, rfl⟩
  rw [h]
  go_wp2_with fail
  go_ret
  exact ⟨rfl, gr_refl _ _⟩
set_option maxHeartbeats 2000000 in
theorem rop103_c (x : Nat) (hx : x < 4294967296) (h : get x 0 7 = 103) (w : World) :
    Calls Tryz.prog 26 #[.int .u32 x] w fun e w' => e = .returned (.int .i64 (mean x).1) ∧ w.grownBy w' none := by
  have em : mean x = (D.look tIndirect (f3 x), src x (immV x 1)) := by simp [mean, h]
  rw [em]
  clear em
  have h8 := g8 x
  have HP := Lib.hid (pk (L := [4]) (T := tIndirect) (by decide) x)
  go_enter Tryz.func26, Tryz.ntmps26
  go_wp2_with fail
  refine (rGet_n x 12 3 hx (by omega) (by omega) _).mono ?_
  rintro e w' ⟨rfl, rfl⟩
  generalize get x 12 3 = g at *
  go_wp2_with fail
  refine (rGet_n x 0 7 hx (by omega) (by omega) _).mono ?_
  rintro e w' ⟨rfl, rfl⟩
  rw [h]
  go_wp2_with fail
  refine (rpick_c [4] (by decide) _ g h8 _ (Row.fresh w 3 (iv [4]))).mono ?_
  rintro e w' ⟨rfl, rfl⟩
  rw [HP.out]
  go_wp2_with fail
  go_ret
  exact ⟨rfl, gr_alloc (gr_refl _ _) _⟩
set_option maxHeartbeats 2000000 in
theorem rop99_c (x : Nat) (hx : x < 4294967296) (h : get x 0 7 = 99) (w : World) :
    Calls Tryz.prog 26 #[.int .u32 x] w fun e w' => e = .returned (.int .i64 (mean x).1) ∧ w.grownBy w' none := by
  have em : mean x = (D.look tBranches (f3 x), par x (immV x 3)) := by simp [mean, h]
  rw [em]
  clear em
  have h8 := g8 x
  have HP := Lib.hid (pk (L := [5, 6, -1, -1, 7, 8, 9, 10]) (T := tBranches) (by decide) x)
  go_enter Tryz.func26, Tryz.ntmps26
  go_wp2_with fail
  refine (rGet_n x 12 3 hx (by omega) (by omega) _).mono ?_
  rintro e w' ⟨rfl, rfl⟩
  generalize get x 12 3 = g at *
  go_wp2_with fail
  refine (rGet_n x 0 7 hx (by omega) (by omega) _).mono ?_
  rintro e w' ⟨rfl, rfl⟩
  rw [h]
  go_wp2_with fail
  refine (rpick_c [5, 6, -1, -1, 7, 8, 9, 10] (by decide) _ g h8 _ (Row.fresh w 3 (iv [5, 6, -1, -1, 7, 8, 9, 10]))).mono ?_
  rintro e w' ⟨rfl, rfl⟩
  rw [HP.out]
  go_wp2_with fail
  go_ret
  exact ⟨rfl, gr_alloc (gr_refl _ _) _⟩
set_option maxHeartbeats 2000000 in
theorem rop3_c (x : Nat) (hx : x < 4294967296) (h : get x 0 7 = 3) (w : World) :
    Calls Tryz.prog 26 #[.int .u32 x] w fun e w' => e = .returned (.int .i64 (mean x).1) ∧ w.grownBy w' none := by
  have em : mean x = (D.look tLoads (f3 x), src x (immV x 1)) := by simp [mean, h]
  rw [em]
  clear em
  have h8 := g8 x
  have HP := Lib.hid (pk (L := [11, 12, 13, 14, 15, 16, 17]) (T := tLoads) (by decide) x)
  go_enter Tryz.func26, Tryz.ntmps26
  go_wp2_with fail
  refine (rGet_n x 12 3 hx (by omega) (by omega) _).mono ?_
  rintro e w' ⟨rfl, rfl⟩
  generalize get x 12 3 = g at *
  go_wp2_with fail
  refine (rGet_n x 0 7 hx (by omega) (by omega) _).mono ?_
  rintro e w' ⟨rfl, rfl⟩
  rw [h]
  go_wp2_with fail
  refine (rpick_c [11, 12, 13, 14, 15, 16, 17] (by decide) _ g h8 _ (Row.fresh w 3 (iv [11, 12, 13, 14, 15, 16, 17]))).mono ?_
  rintro e w' ⟨rfl, rfl⟩
  rw [HP.out]
  go_wp2_with fail
  go_ret
  exact ⟨rfl, gr_alloc (gr_refl _ _) _⟩
set_option maxHeartbeats 2000000 in
theorem rop35_c (x : Nat) (hx : x < 4294967296) (h : get x 0 7 = 35) (w : World) :
    Calls Tryz.prog 26 #[.int .u32 x] w fun e w' => e = .returned (.int .i64 (mean x).1) ∧ w.grownBy w' none := by
  have em : mean x = (D.look tStores (f3 x), par x (immV x 2)) := by simp [mean, h]
  rw [em]
  clear em
  have h8 := g8 x
  have HP := Lib.hid (pk (L := [18, 19, 20, 21]) (T := tStores) (by decide) x)
  go_enter Tryz.func26, Tryz.ntmps26
  go_wp2_with fail
  refine (rGet_n x 12 3 hx (by omega) (by omega) _).mono ?_
  rintro e w' ⟨rfl, rfl⟩
  generalize get x 12 3 = g at *
  go_wp2_with fail
  refine (rGet_n x 0 7 hx (by omega) (by omega) _).mono ?_
  rintro e w' ⟨rfl, rfl⟩
  rw [h]
  go_wp2_with fail
  refine (rpick_c [18, 19, 20, 21] (by decide) _ g h8 _ (Row.fresh w 3 (iv [18, 19, 20, 21]))).mono ?_
  rintro e w' ⟨rfl, rfl⟩
  rw [HP.out]
  go_wp2_with fail
  go_ret
  exact ⟨rfl, gr_alloc (gr_refl _ _) _⟩
set_option maxHeartbeats 2000000 in
theorem rop19_c (x : Nat) (hx : x < 4294967296) (h : get x 0 7 = 19) (w : World) :
    Calls Tryz.prog 26 #[.int .u32 x] w fun e w' => e = .returned (.int .i64 (mean x).1) ∧ w.grownBy w' none := by
  have em : mean x = withN x (f3 x) := by simp [mean, h]
  rw [em]
  clear em
  have h8 := g8 x
  by_cases hf : get x 12 3 = 1 ∨ get x 12 3 = 5
  · have e1 : (withN x (f3 x)).1 = D.look (tShifts (get x 26 6 : Nat)) (get x 12 3 : Nat) := by rw [withN, if_pos (show f3 x = 1 ∨ f3 x = 5 by unfold f3; omega)]; rfl
    rw [e1]
    have HS := Lib.hid (fun W => rshifts_c x hx hf W)
    generalize D.look (tShifts (get x 26 6 : Nat)) (get x 12 3 : Nat) = res at *
    rcases hf with hf | hf
    all_goals
      go_enter Tryz.func26, Tryz.ntmps26
      go_wp2_with fail
      refine (rGet_n x 12 3 hx (by omega) (by omega) _).mono ?_
      rintro e w' ⟨rfl, rfl⟩
      rw [hf]
      go_wp2_with fail
      refine (rGet_n x 0 7 hx (by omega) (by omega) _).mono ?_
      rintro e w' ⟨rfl, rfl⟩
      rw [h]
      go_wp2_with fail
      refine (HS.out _).mono ?_
      rintro e w' ⟨rfl, rfl⟩
      go_wp2_with fail
      go_ret
      exact ⟨rfl, gr_refl _ _⟩
  · have e1 : (withN x (f3 x)).1 = D.look tPlain (f3 x) := by rw [withN, if_neg (show ¬ (f3 x = 1 ∨ f3 x = 5) by unfold f3; omega)]
    rw [e1]
    have HP := Lib.hid (pk (L := [22, -1, 23, 24, 25, -1, 26, 27]) (T := tPlain) (by decide) x)
    have d1 : (((get x 12 3 : Nat) : Int) == 1) = false := by simp; omega
    have d5 : (((get x 12 3 : Nat) : Int) == 5) = false := by simp; omega
    go_enter Tryz.func26, Tryz.ntmps26
    go_wp2_with fail
    refine (rGet_n x 12 3 hx (by omega) (by omega) _).mono ?_
    rintro e w' ⟨rfl, rfl⟩
    generalize get x 12 3 = g at *
    go_wp2_with fail
    refine (rGet_n x 0 7 hx (by omega) (by omega) _).mono ?_
    rintro e w' ⟨rfl, rfl⟩
    rw [h]
    go_wp2_with fail
    refine (rpick_c [22, -1, 23, 24, 25, -1, 26, 27] (by decide) _ g h8 _ (Row.fresh w 3 (iv [22, -1, 23, 24, 25, -1, 26, 27]))).mono ?_
    rintro e w' ⟨rfl, rfl⟩
    rw [HP.out]
    go_wp2_with fail
    go_ret
    exact ⟨rfl, gr_alloc (gr_refl _ _) _⟩
set_option maxHeartbeats 2000000 in
theorem rop27_c (x : Nat) (hx : x < 4294967296) (h : get x 0 7 = 27) (w : World) :
    Calls Tryz.prog 26 #[.int .u32 x] w fun e w' => e = .returned (.int .i64 (mean x).1) ∧ w.grownBy w' none := by
  have em : mean x = withN32 x (f3 x) (f7 x) := by simp [mean, h]
  rw [em]
  clear em
  have h8 := g8 x
  by_cases hf : get x 12 3 = 1 ∨ get x 12 3 = 5
  · have e1 : (withN32 x (f3 x) (f7 x)).1 = D.look (tShifts32 (get x 25 7 : Nat)) (get x 12 3 : Nat) := by rw [withN32, if_neg (show ¬ f3 x = 0 by unfold f3; omega)]; rfl
    rw [e1]
    have HS := Lib.hid (fun W => rshifts32_c x hx hf W)
    generalize D.look (tShifts32 (get x 25 7 : Nat)) (get x 12 3 : Nat) = res at *
    rcases hf with hf | hf
    all_goals
      go_enter Tryz.func26, Tryz.ntmps26
      go_wp2_with fail
      refine (rGet_n x 12 3 hx (by omega) (by omega) _).mono ?_
      rintro e w' ⟨rfl, rfl⟩
      rw [hf]
      go_wp2_with fail
      refine (rGet_n x 0 7 hx (by omega) (by omega) _).mono ?_
      rintro e w' ⟨rfl, rfl⟩
      rw [h]
      go_wp2_with fail
      refine (HS.out _).mono ?_
      rintro e w' ⟨rfl, rfl⟩
      go_wp2_with fail
      go_ret
      exact ⟨rfl, gr_refl _ _⟩
  · have e1 : (withN32 x (f3 x) (f7 x)).1 = pickV [41] (get x 12 3) := by
      have n1 : ∀ (t : Int) (g : Nat), g < 8 → ¬ (g = 1 ∨ g = 5) → g ≠ 0 → D.look (tShifts32 t) g = pickV [41] g := by
        intro t g hg hn h0
        have hp : ∀ g : Nat, g < 8 → g ≠ 0 → pickV [41] g = 0 := by decide
        rw [hp g hg h0, tShifts32]
        split
        · simp only [D.look]; rw [if_neg (by omega), if_neg (by omega)]
        · split
          · simp only [D.look]; rw [if_neg (by omega)]
          · rfl
      rw [withN32]
      by_cases h0 : get x 12 3 = 0
      · rw [if_pos (show f3 x = 0 by unfold f3; omega), h0]; rfl
      · rw [if_neg (show ¬ f3 x = 0 by unfold f3; omega)]
        exact n1 _ _ (by omega) hf h0
    rw [e1]
    have d1 : (((get x 12 3 : Nat) : Int) == 1) = false := by simp; omega
    have d5 : (((get x 12 3 : Nat) : Int) == 5) = false := by simp; omega
    clear e1
    generalize hres : pickV [41] (get x 12 3) = res
    have HP := Lib.hid hres
    clear hres
    go_enter Tryz.func26, Tryz.ntmps26
    go_wp2_with fail
    refine (rGet_n x 12 3 hx (by omega) (by omega) _).mono ?_
    rintro e w' ⟨rfl, rfl⟩
    generalize get x 12 3 = g at *
    go_wp2_with fail
    refine (rGet_n x 0 7 hx (by omega) (by omega) _).mono ?_
    rintro e w' ⟨rfl, rfl⟩
    rw [h]
    go_wp2_with fail
    refine (rpick_c [41] (by decide) _ g h8 _ (Row.fresh w 3 (iv [41]))).mono ?_
    rintro e w' ⟨rfl, rfl⟩
    rw [HP.out]
    go_wp2_with fail
    go_ret
    exact ⟨rfl, gr_alloc (gr_refl _ _) _⟩
set_option maxHeartbeats 2000000 in
theorem rop51_c (x : Nat) (hx : x < 4294967296) (h : get x 0 7 = 51) (w : World) :
    Calls Tryz.prog 26 #[.int .u32 x] w fun e w' => e = .returned (.int .i64 (mean x).1) ∧ w.grownBy w' none := by
  have em : mean x = (D.look (tRegs (f7 x)) (f3 x), thr x) := by simp [mean, h]
  rw [em]
  clear em
  have h8 := g8 x
  have HS := Lib.hid (fun W => rregs_c x hx W)
  generalize D.look (tRegs (f7 x)) (f3 x) = res at *
  go_enter Tryz.func26, Tryz.ntmps26
  go_wp2_with fail
  refine (rGet_n x 12 3 hx (by omega) (by omega) _).mono ?_
  rintro e w' ⟨rfl, rfl⟩
  generalize get x 12 3 = g at *
  go_wp2_with fail
  refine (rGet_n x 0 7 hx (by omega) (by omega) _).mono ?_
  rintro e w' ⟨rfl, rfl⟩
  rw [h]
  go_wp2_with fail
  refine (HS.out _).mono ?_
  rintro e w' ⟨rfl, hG⟩
  go_wp2_with fail
  go_ret
  exact ⟨rfl, hG⟩
set_option maxHeartbeats 2000000 in
theorem rop59_c (x : Nat) (hx : x < 4294967296) (h : get x 0 7 = 59) (w : World) :
    Calls Tryz.prog 26 #[.int .u32 x] w fun e w' => e = .returned (.int .i64 (mean x).1) ∧ w.grownBy w' none := by
  have em : mean x = (D.look (tRegs32 (f7 x)) (f3 x), thr x) := by simp [mean, h]
  rw [em]
  clear em
  have h8 := g8 x
  have HS := Lib.hid (fun W => rregs32_c x hx W)
  generalize D.look (tRegs32 (f7 x)) (f3 x) = res at *
  go_enter Tryz.func26, Tryz.ntmps26
  go_wp2_with fail
  refine (rGet_n x 12 3 hx (by omega) (by omega) _).mono ?_
  rintro e w' ⟨rfl, rfl⟩
  generalize get x 12 3 = g at *
  go_wp2_with fail
  refine (rGet_n x 0 7 hx (by omega) (by omega) _).mono ?_
  rintro e w' ⟨rfl, rfl⟩
  rw [h]
  go_wp2_with fail
  refine (HS.out _).mono ?_
  rintro e w' ⟨rfl, hG⟩
  go_wp2_with fail
  go_ret
  exact ⟨rfl, hG⟩
set_option maxHeartbeats 2000000 in
theorem rop15_c (x : Nat) (hx : x < 4294967296) (h : get x 0 7 = 15) (w : World) :
    Calls Tryz.prog 26 #[.int .u32 x] w fun e w' => e = .returned (.int .i64 (mean x).1) ∧ w.grownBy w' none := by
  have em : mean x = (D.look tFences (f3 x), bar) := by simp [mean, h]
  rw [em]
  clear em
  have h8 := g8 x
  have HP := Lib.hid (pk (L := [63, 64]) (T := tFences) (by decide) x)
  go_enter Tryz.func26, Tryz.ntmps26
  go_wp2_with fail
  refine (rGet_n x 12 3 hx (by omega) (by omega) _).mono ?_
  rintro e w' ⟨rfl, rfl⟩
  generalize get x 12 3 = g at *
  go_wp2_with fail
  refine (rGet_n x 0 7 hx (by omega) (by omega) _).mono ?_
  rintro e w' ⟨rfl, rfl⟩
  rw [h]
  go_wp2_with fail
  refine (rpick_c [63, 64] (by decide) _ g h8 _ (Row.fresh w 3 (iv [63, 64]))).mono ?_
  rintro e w' ⟨rfl, rfl⟩
  rw [HP.out]
  go_wp2_with fail
  go_ret
  exact ⟨rfl, gr_alloc (gr_refl _ _) _⟩
set_option maxHeartbeats 2000000 in
theorem rop115_c (x : Nat) (hx : x < 4294967296) (h : get x 0 7 = 115) (w : World) :
    Calls Tryz.prog 26 #[.int .u32 x] w fun e w' => e = .returned (.int .i64 (mean x).1) ∧ w.grownBy w' none := by
  have em : mean x = sysV x (f3 x) (f7 x) := by simp [mean, h]
  rw [em]
  clear em
  have h8 := g8 x
  have HS := Lib.hid (fun W => rsystem_c x hx W)
  generalize (sysV x (f3 x) (f7 x)).1 = res at *
  go_enter Tryz.func26, Tryz.ntmps26
  go_wp2_with fail
  refine (rGet_n x 12 3 hx (by omega) (by omega) _).mono ?_
  rintro e w' ⟨rfl, rfl⟩
  generalize get x 12 3 = g at *
  go_wp2_with fail
  refine (rGet_n x 0 7 hx (by omega) (by omega) _).mono ?_
  rintro e w' ⟨rfl, rfl⟩
  rw [h]
  go_wp2_with fail
  refine (HS.out _).mono ?_
  rintro e w' ⟨rfl, hG⟩
  go_wp2_with fail
  go_ret
  exact ⟨rfl, hG⟩
set_option maxHeartbeats 2000000 in
theorem rop47_c (x : Nat) (hx : x < 4294967296) (h : get x 0 7 = 47) (w : World) :
    Calls Tryz.prog 26 #[.int .u32 x] w fun e w' => e = .returned (.int .i64 (mean x).1) ∧ w.grownBy w' none := by
  have em : mean x = atoV x (f3 x) := by simp [mean, h]
  rw [em]
  clear em
  have h8 := g8 x
  have HS := Lib.hid (fun W => ratomic_c x hx W)
  generalize (atoV x (f3 x)).1 = res at *
  go_enter Tryz.func26, Tryz.ntmps26
  go_wp2_with fail
  refine (rGet_n x 12 3 hx (by omega) (by omega) _).mono ?_
  rintro e w' ⟨rfl, rfl⟩
  generalize get x 12 3 = g at *
  go_wp2_with fail
  refine (rGet_n x 0 7 hx (by omega) (by omega) _).mono ?_
  rintro e w' ⟨rfl, rfl⟩
  rw [h]
  go_wp2_with fail
  refine (HS.out _).mono ?_
  rintro e w' ⟨rfl, hG⟩
  go_wp2_with fail
  go_ret
  exact ⟨rfl, hG⟩
set_option maxHeartbeats 2000000 in
theorem rop_none_c (x : Nat) (hx : x < 4294967296) (h : get x 0 7 ≠ 55 ∧ get x 0 7 ≠ 23 ∧ get x 0 7 ≠ 111 ∧ get x 0 7 ≠ 103 ∧ get x 0 7 ≠ 99 ∧ get x 0 7 ≠ 3 ∧ get x 0 7 ≠ 35 ∧ get x 0 7 ≠ 19 ∧ get x 0 7 ≠ 27 ∧ get x 0 7 ≠ 51 ∧ get x 0 7 ≠ 59 ∧ get x 0 7 ≠ 15 ∧ get x 0 7 ≠ 115 ∧ get x 0 7 ≠ 47) (w : World) :
    Calls Tryz.prog 26 #[.int .u32 x] w fun e w' => e = .returned (.int .i64 (mean x).1) ∧ w.grownBy w' none := by
  rw [show mean x = (0, bar) from by simp [mean, h]]
  have d55 : (((get x 0 7 : Nat) : Int) == 55) = false := by have := h; simp; omega
  have d23 : (((get x 0 7 : Nat) : Int) == 23) = false := by have := h; simp; omega
  have d111 : (((get x 0 7 : Nat) : Int) == 111) = false := by have := h; simp; omega
  have d103 : (((get x 0 7 : Nat) : Int) == 103) = false := by have := h; simp; omega
  have d99 : (((get x 0 7 : Nat) : Int) == 99) = false := by have := h; simp; omega
  have d3 : (((get x 0 7 : Nat) : Int) == 3) = false := by have := h; simp; omega
  have d35 : (((get x 0 7 : Nat) : Int) == 35) = false := by have := h; simp; omega
  have d19 : (((get x 0 7 : Nat) : Int) == 19) = false := by have := h; simp; omega
  have d27 : (((get x 0 7 : Nat) : Int) == 27) = false := by have := h; simp; omega
  have d51 : (((get x 0 7 : Nat) : Int) == 51) = false := by have := h; simp; omega
  have d59 : (((get x 0 7 : Nat) : Int) == 59) = false := by have := h; simp; omega
  have d15 : (((get x 0 7 : Nat) : Int) == 15) = false := by have := h; simp; omega
  have d115 : (((get x 0 7 : Nat) : Int) == 115) = false := by have := h; simp; omega
  have d47 : (((get x 0 7 : Nat) : Int) == 47) = false := by have := h; simp; omega
  clear h
  go_enter Tryz.func26, Tryz.ntmps26
  go_wp2_with fail
  refine (rGet_n x 12 3 hx (by omega) (by omega) _).mono ?_
  rintro e w' ⟨rfl, rfl⟩
  generalize get x 12 3 = g at *
  go_wp2_with fail
  refine (rGet_n x 0 7 hx (by omega) (by omega) _).mono ?_
  rintro e w' ⟨rfl, rfl⟩
  generalize ((get x 0 7 : Nat) : Int) = q at *
  go_wp2_with fail
  go_ret
  exact ⟨rfl, gr_refl _ _⟩
theorem rop_c (x : Nat) (hx : x < 4294967296) (w : World) :
    Calls Tryz.prog 26 #[.int .u32 x] w fun e w' => e = .returned (.int .i64 (D.wordV x).1) ∧ w.grownBy w' none := by
  rw [show (D.wordV x).1 = (mean x).1 by rw [D.wordV]; split <;> simp_all]
  by_cases h55 : get x 0 7 = 55
  · exact rop55_c x hx h55 w
  by_cases h23 : get x 0 7 = 23
  · exact rop23_c x hx h23 w
  by_cases h111 : get x 0 7 = 111
  · exact rop111_c x hx h111 w
  by_cases h103 : get x 0 7 = 103
  · exact rop103_c x hx h103 w
  by_cases h99 : get x 0 7 = 99
  · exact rop99_c x hx h99 w
  by_cases h3 : get x 0 7 = 3
  · exact rop3_c x hx h3 w
  by_cases h35 : get x 0 7 = 35
  · exact rop35_c x hx h35 w
  by_cases h19 : get x 0 7 = 19
  · exact rop19_c x hx h19 w
  by_cases h27 : get x 0 7 = 27
  · exact rop27_c x hx h27 w
  by_cases h51 : get x 0 7 = 51
  · exact rop51_c x hx h51 w
  by_cases h59 : get x 0 7 = 59
  · exact rop59_c x hx h59 w
  by_cases h15 : get x 0 7 = 15
  · exact rop15_c x hx h15 w
  by_cases h115 : get x 0 7 = 115
  · exact rop115_c x hx h115 w
  by_cases h47 : get x 0 7 = 47
  · exact rop47_c x hx h47 w
  exact rop_none_c x hx ⟨h55, h23, h111, h103, h99, h3, h35, h19, h27, h51, h59, h15, h115, h47⟩ w
end Go.Proofs.YtpbeamnogfjagaaGreatDoor
