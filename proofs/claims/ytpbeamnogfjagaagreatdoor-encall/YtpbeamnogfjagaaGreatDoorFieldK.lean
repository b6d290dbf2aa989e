/-
  Registers of a word; masks of a byte; parts of a word side by side.
  Conditions: none.
-/
import Derived.Test.YtpbeamnogfjagaaGreatDoorFieldI
namespace Go.Proofs.YtpbeamnogfjagaaGreatDoor
open Go Go.RowKit F W M
set_option linter.unusedVariables false

set_option maxHeartbeats 400000 in
theorem Rd_c (x : Nat) (hx : x < 4294967296) (w : World) :
    Calls Tryz.prog 101 #[.int .u32 x] w fun e w' => e = .returned (.int .i64 (get x 7 5 : Nat)) ∧ ∃ n, w' = w.drewN n := by
  have hl := get_lt x 7 5
  go_enter Tryz.func101, Tryz.ntmps101
  go_wp2_with fail
  refine (Get_c x 7 5 hx (by omega) (by omega) _).mono ?_
  rintro e w1 ⟨rfl, n, rfl⟩
  rw [show gotV x 7 5 = get x 7 5 from gotV_nat x 7 5 (by omega)]
  go_wp2_with fail
  go_ret
  exact ⟨rfl, n, rfl⟩
set_option maxHeartbeats 400000 in
theorem Rs1_c (x : Nat) (hx : x < 4294967296) (w : World) :
    Calls Tryz.prog 105 #[.int .u32 x] w fun e w' => e = .returned (.int .i64 (get x 15 5 : Nat)) ∧ ∃ n, w' = w.drewN n := by
  have hl := get_lt x 15 5
  go_enter Tryz.func105, Tryz.ntmps105
  go_wp2_with fail
  refine (Get_c x 15 5 hx (by omega) (by omega) _).mono ?_
  rintro e w1 ⟨rfl, n, rfl⟩
  rw [show gotV x 15 5 = get x 15 5 from gotV_nat x 15 5 (by omega)]
  go_wp2_with fail
  go_ret
  exact ⟨rfl, n, rfl⟩
set_option maxHeartbeats 400000 in
theorem Rs2_c (x : Nat) (hx : x < 4294967296) (w : World) :
    Calls Tryz.prog 107 #[.int .u32 x] w fun e w' => e = .returned (.int .i64 (get x 20 5 : Nat)) ∧ ∃ n, w' = w.drewN n := by
  have hl := get_lt x 20 5
  go_enter Tryz.func107, Tryz.ntmps107
  go_wp2_with fail
  refine (Get_c x 20 5 hx (by omega) (by omega) _).mono ?_
  rintro e w1 ⟨rfl, n, rfl⟩
  rw [show gotV x 20 5 = get x 20 5 from gotV_nat x 20 5 (by omega)]
  go_wp2_with fail
  go_ret
  exact ⟨rfl, n, rfl⟩

/-! ### Masks of a byte -/
theorem b_and31 (v : Int) (h : 0 ≤ v ∧ v ≤ 255) : ∃ k : Nat, k < 32 ∧ bits .and .u8 v 31 = (k : Int) ∧ v % 32 = k :=
  ⟨(v % 32).toNat, by omega, by rw [u8_and _ _ h.1 (by omega) (by omega) (by omega), show (31 : Int).toNat = 31 from rfl, nat_mask5]; omega, by omega⟩
theorem b_and15 (v : Int) (h : 0 ≤ v ∧ v ≤ 255) : ∃ k : Nat, k < 16 ∧ bits .and .u8 v 15 = (k : Int) :=
  ⟨(v % 16).toNat, by omega, by
    rw [u8_and _ _ h.1 (by omega) (by omega) (by omega), show (15 : Int).toNat = 2 ^ 4 - 1 from rfl, Nat.and_two_pow_sub_one_eq_mod]; omega⟩

/-! ### Parts of a word -/
theorem get_all (x : Nat) (hx : x < 4294967296) : gotV x 0 32 = x := by
  rw [show gotV x 0 32 = get x 0 32 from gotV_nat x 0 32 (by omega), F.get, Nat.shiftRight_zero]
  exact Nat.mod_eq_of_lt hx
theorem get_top (x : Nat) (hx : x < 4294967296) : gotV x 32 1 = 0 := by
  rw [show gotV x 32 1 = get x 32 1 from gotV_nat x 32 1 (by omega), F.get, Nat.shiftRight_eq_div_pow, Nat.div_eq_of_lt hx]
theorem get_none (x : Nat) (k : Int) : gotV x k 0 = 0 := by rw [gotV, if_pos (by omega)]
theorem get_join (x k n m : Nat) : get x k (n + m) = get x k n + 2 ^ n * get x (k + n) m := by
  unfold F.get
  rw [Nat.shiftRight_add, Nat.pow_add, Nat.mod_mul, Nat.shiftRight_eq_div_pow (x >>> k) n]
end Go.Proofs.YtpbeamnogfjagaaGreatDoor
