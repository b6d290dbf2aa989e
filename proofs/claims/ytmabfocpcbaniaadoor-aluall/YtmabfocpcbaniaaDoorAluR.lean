/-
  What the document's own answers for layer 7 (package suzerainref07) are made of: contracts over the translation, each by the program's plain functions.
  Conditions: the arguments are numbers of their kinds.
-/
import Derived.Test.YtmabfocpcbaniaaDoorAluN
import Derived.Test.YtmabfocpcbaniaaDoorAluK
import Derived.Test.YtmabfocpcbaniaaDoorWordR3
namespace Go.Proofs.YtmabfocpcbaniaaDoor
open Go Go.RowKit W M D A
set_option linter.unusedVariables false
set_option maxRecDepth 100000

def iv (ps : List Int) : List Value := ps.map (Value.int .i64)
/-! ### Kind -/
theorem lasts_at (k : Nat) (hk : k < 15) : (iv lasts)[k]? = some (.int .i64 (lasts.getD k 0)) := by
  rcases fifteen k hk with rfl | rfl | rfl | rfl | rfl | rfl | rfl | rfl | rfl | rfl | rfl | rfl | rfl | rfl | rfl <;> rfl
set_option maxHeartbeats 1000000 in
theorem rKind_c (o : Int) (ho : -9223372036854775808 ≤ o ∧ o ≤ 9223372036854775807) (w : World) :
    Calls Tryd.prog 16 #[.int .i64 o] w fun e w' => e = .returned (.int .i64 (kindV o)) ∧ w.grownBy w' none := by
  have HR := Lib.hid (Row.fresh w 3 (iv lasts))
  by_cases hn : o < 0
  · have HK := Lib.hid (show kindV o = 0 by rw [kindV, if_pos (by omega)])
    go_enter Tryd.func16, Tryd.ntmps16
    go_wp2_with fail
    go_ret
    exact ⟨ret_int HK.out.symm, gr_alloc (gr_refl _ _) _⟩
  have d0 : decide (o < 0) = false := by simpa using hn
  go_enter Tryd.func16, Tryd.ntmps16
  go_wp2_with fail
  go_loop [4] (fun i => ∃ k : Nat, k ≤ 15 ∧ i = .int .i64 k ∧ (k = 0 ∨ lasts.getD (k - 1) 0 < o)) (fun i => 15 - (intOf i).toNat)
  case atStart => exact ⟨0, by omega, rfl, Or.inl rfl⟩
  case round =>
    obtain ⟨k, hk, rfl, hp⟩ := hrel
    have HP := Lib.hid hp
    clear hp
    by_cases hlt : k < 15
    · have hL := HR.out.cell k
      rw [lasts_at k hlt] at hL
      simp only [iv, lasts, List.map_cons, List.map_nil] at hL
      by_cases hle : o ≤ lasts.getD k 0
      · have HK := Lib.hid (kind_at o k hlt hle HP.out)
        replace hL : World.cell? _ _ = some (.int .i64 (lasts.getD k 0)) := hL
        generalize lasts.getD k 0 = l at *
        go_wp2_with fail
        go_ret
        exact ⟨ret_int HK.out.symm, gr_alloc (gr_refl _ _) _⟩
      · have HL := Lib.hid (show lasts.getD (k + 1 - 1) 0 < o by rw [Nat.add_sub_cancel]; omega)
        have hgt : lasts.getD k 0 < o := by omega
        replace hL : World.cell? _ _ = some (.int .i64 (lasts.getD k 0)) := hL
        generalize lasts.getD k 0 = l at *
        go_wp2_with fail
        go_round
        case rel => exact ⟨k + 1, by omega, by go_num, Or.inr HL.out⟩
        case measure => simp [intOf]; omega
    · obtain rfl : k = 15 := by omega
      have HK := Lib.hid (kind_none o (by rcases HP.out with h | h; exact absurd h (by decide); exact h))
      go_wp2_with fail
      go_ret
      exact ⟨ret_int HK.out.symm, gr_alloc (gr_refl _ _) _⟩

/-! ### Less, and a bit -/
def lessV (a b : Int) (s : Bool) : Bool := if s = true then ltS a b else ltU a b
theorem rless_c (a b : Int) (s : Bool) (ha : B64 a) (hb : B64 b) (w : World) :
    Calls Tryd.prog 21 #[.int .u64 a, .int .u64 b, .bool s] w fun e w' => e = .returned (.bool (lessV a b s)) ∧ w = w' := by
  have t1 : a / 9223372036854775808 = 0 ∨ a / 9223372036854775808 = 1 := by unfold B64 at *; omega
  have t2 : b / 9223372036854775808 = 0 ∨ b / 9223372036854775808 = 1 := by unfold B64 at *; omega
  have wa := w64_def a
  have wb := w64_def b
  unfold B64 at ha hb
  cases s
  · have HE := Lib.hid (show lessV a b false = decide (a < b) from rfl)
    clear wa wb
    go_enter Tryd.func21, Tryd.ntmps21
    go_wp2_with fail
    go_ret
    exact ⟨ret_bool HE.out.symm, rfl⟩
  · rcases t1 with t1 | t1 <;> rcases t2 with t2 | t2
    · have HE := Lib.hid (show lessV a b true = decide (a < b) by unfold lessV ltS; rw [if_pos rfl]; exact decide_eq_decide.2 (by omega))
      clear wa wb
      go_enter Tryd.func21, Tryd.ntmps21
      go_wp2_with fail
      go_ret
      exact ⟨ret_bool HE.out.symm, rfl⟩
    · have HE := Lib.hid (show lessV a b true = false by unfold lessV ltS; rw [if_pos rfl]; exact decide_eq_false (by omega))
      clear wa wb
      go_enter Tryd.func21, Tryd.ntmps21
      go_wp2_with fail
      go_ret
      exact ⟨ret_bool HE.out.symm, rfl⟩
    · have HE := Lib.hid (show lessV a b true = true by unfold lessV ltS; rw [if_pos rfl]; exact decide_eq_true (by omega))
      clear wa wb
      go_enter Tryd.func21, Tryd.ntmps21
      go_wp2_with fail
      go_ret
      exact ⟨ret_bool HE.out.symm, rfl⟩
    · have HE := Lib.hid (show lessV a b true = decide (a < b) by unfold lessV ltS; rw [if_pos rfl]; exact decide_eq_decide.2 (by omega))
      clear wa wb
      go_enter Tryd.func21, Tryd.ntmps21
      go_wp2_with fail
      go_ret
      exact ⟨ret_bool HE.out.symm, rfl⟩
def bitV (s : Bool) : Int := if s = true then 1 else 0
theorem rbit_c (s : Bool) (w : World) : Calls Tryd.prog 29 #[.bool s] w fun e w' => e = .returned (.int .u64 (bitV s)) ∧ w = w' := by
  cases s
  all_goals
    go_enter Tryd.func29, Tryd.ntmps29
    go_wp2_with fail
    go_ret
    exact ⟨rfl, rfl⟩

/-! ### Op by op -/
theorem sll_same (a b : Int) : lowS (shiftV a (b % 32) 0) = sh32V lowV 0 a b := by
  unfold sh32V lowV
  apply low_cong
  unfold shiftV
  rw [if_pos rfl, if_pos rfl, u64_mod32, u64_mod32, d_mul]
set_option maxHeartbeats 400000 in
theorem rplain_22 (a b : Int) (ha : Hid (B64 a)) (hb : Hid (B64 b)) (w : World) : Calls Tryd.prog 17 #[.int .i64 22, .int .u64 a, .int .u64 b] w fun e w' => e = .returned (.int .u64 (doV 22 a b)) ∧ w = w' := by
  have HE := Lib.hid (do_22 a b)
  have qa : 0 ≤ a ∧ a ≤ 18446744073709551615 := ha.out
  have qb : 0 ≤ b ∧ b ≤ 18446744073709551615 := hb.out
  go_enter Tryd.func17, Tryd.ntmps17
  go_wp2_with fail
  go_ret
  exact ⟨ret_int HE.out.symm, rfl⟩
set_option maxHeartbeats 400000 in
theorem rplain_23 (a b : Int) (ha : Hid (B64 a)) (hb : Hid (B64 b)) (w : World) : Calls Tryd.prog 17 #[.int .i64 23, .int .u64 a, .int .u64 b] w fun e w' => e = .returned (.int .u64 (doV 23 a b)) ∧ w = w' := by
  have HE := Lib.hid (show doV 23 a b = bitV (lessV a b true) from rfl)
  have qa : 0 ≤ a ∧ a ≤ 18446744073709551615 := ha.out
  have qb : 0 ≤ b ∧ b ≤ 18446744073709551615 := hb.out
  go_enter Tryd.func17, Tryd.ntmps17
  go_wp2_with fail
  refine (rless_c a b true ha.out hb.out _).mono ?_
  rintro e w' ⟨rfl, rfl⟩
  go_wp2_with fail
  refine (rbit_c _ _).mono ?_
  rintro e w' ⟨rfl, rfl⟩
  go_wp2_with fail
  go_ret
  exact ⟨ret_int HE.out.symm, rfl⟩
set_option maxHeartbeats 400000 in
theorem rplain_24 (a b : Int) (ha : Hid (B64 a)) (hb : Hid (B64 b)) (w : World) : Calls Tryd.prog 17 #[.int .i64 24, .int .u64 a, .int .u64 b] w fun e w' => e = .returned (.int .u64 (doV 24 a b)) ∧ w = w' := by
  have HE := Lib.hid (show doV 24 a b = bitV (lessV a b false) from rfl)
  have qa : 0 ≤ a ∧ a ≤ 18446744073709551615 := ha.out
  have qb : 0 ≤ b ∧ b ≤ 18446744073709551615 := hb.out
  go_enter Tryd.func17, Tryd.ntmps17
  go_wp2_with fail
  refine (rless_c a b false ha.out hb.out _).mono ?_
  rintro e w' ⟨rfl, rfl⟩
  go_wp2_with fail
  refine (rbit_c _ _).mono ?_
  rintro e w' ⟨rfl, rfl⟩
  go_wp2_with fail
  go_ret
  exact ⟨ret_int HE.out.symm, rfl⟩
set_option maxHeartbeats 400000 in
theorem rplain_25 (a b : Int) (ha : Hid (B64 a)) (hb : Hid (B64 b)) (w : World) : Calls Tryd.prog 17 #[.int .i64 25, .int .u64 a, .int .u64 b] w fun e w' => e = .returned (.int .u64 (doV 25 a b)) ∧ w = w' := by
  have HE := Lib.hid (do_25 a b)
  have qa : 0 ≤ a ∧ a ≤ 18446744073709551615 := ha.out
  have qb : 0 ≤ b ∧ b ≤ 18446744073709551615 := hb.out
  go_enter Tryd.func17, Tryd.ntmps17
  go_wp2_with fail
  go_ret
  exact ⟨ret_int HE.out.symm, rfl⟩
set_option maxHeartbeats 400000 in
theorem rplain_26 (a b : Int) (ha : Hid (B64 a)) (hb : Hid (B64 b)) (w : World) : Calls Tryd.prog 17 #[.int .i64 26, .int .u64 a, .int .u64 b] w fun e w' => e = .returned (.int .u64 (doV 26 a b)) ∧ w = w' := by
  have HE := Lib.hid (do_26 a b)
  have qa : 0 ≤ a ∧ a ≤ 18446744073709551615 := ha.out
  have qb : 0 ≤ b ∧ b ≤ 18446744073709551615 := hb.out
  go_enter Tryd.func17, Tryd.ntmps17
  go_wp2_with fail
  go_ret
  exact ⟨ret_int HE.out.symm, rfl⟩
set_option maxHeartbeats 400000 in
theorem rplain_27 (a b : Int) (ha : Hid (B64 a)) (hb : Hid (B64 b)) (w : World) : Calls Tryd.prog 17 #[.int .i64 27, .int .u64 a, .int .u64 b] w fun e w' => e = .returned (.int .u64 (doV 27 a b)) ∧ w = w' := by
  have HE := Lib.hid (do_27 a b)
  have qa : 0 ≤ a ∧ a ≤ 18446744073709551615 := ha.out
  have qb : 0 ≤ b ∧ b ≤ 18446744073709551615 := hb.out
  go_enter Tryd.func17, Tryd.ntmps17
  go_wp2_with fail
  go_ret
  exact ⟨ret_int HE.out.symm, rfl⟩
set_option maxHeartbeats 400000 in
theorem rplain_28 (a b : Int) (ha : Hid (B64 a)) (hb : Hid (B64 b)) (w : World) : Calls Tryd.prog 17 #[.int .i64 28, .int .u64 a, .int .u64 b] w fun e w' => e = .returned (.int .u64 (doV 28 a b)) ∧ w = w' := by
  have HE := Lib.hid (do_28 a b)
  have qa : 0 ≤ a ∧ a ≤ 18446744073709551615 := ha.out
  have qb : 0 ≤ b ∧ b ≤ 18446744073709551615 := hb.out
  go_enter Tryd.func17, Tryd.ntmps17
  go_wp2_with fail
  refine (rShift_c a (b % 64) 0 (ha.out) (by unfold B64 at *; omega) (by omega) _).mono ?_
  rintro e w' ⟨rfl, rfl⟩
  go_wp2_with fail
  go_ret
  exact ⟨ret_int HE.out.symm, rfl⟩
set_option maxHeartbeats 400000 in
theorem rplain_29 (a b : Int) (ha : Hid (B64 a)) (hb : Hid (B64 b)) (w : World) : Calls Tryd.prog 17 #[.int .i64 29, .int .u64 a, .int .u64 b] w fun e w' => e = .returned (.int .u64 (doV 29 a b)) ∧ w = w' := by
  have HE := Lib.hid (do_29 a b)
  have qa : 0 ≤ a ∧ a ≤ 18446744073709551615 := ha.out
  have qb : 0 ≤ b ∧ b ≤ 18446744073709551615 := hb.out
  go_enter Tryd.func17, Tryd.ntmps17
  go_wp2_with fail
  refine (rShift_c a (b % 64) 1 (ha.out) (by unfold B64 at *; omega) (by omega) _).mono ?_
  rintro e w' ⟨rfl, rfl⟩
  go_wp2_with fail
  go_ret
  exact ⟨ret_int HE.out.symm, rfl⟩
set_option maxHeartbeats 400000 in
theorem rplain_30 (a b : Int) (ha : Hid (B64 a)) (hb : Hid (B64 b)) (w : World) : Calls Tryd.prog 17 #[.int .i64 30, .int .u64 a, .int .u64 b] w fun e w' => e = .returned (.int .u64 (doV 30 a b)) ∧ w = w' := by
  have HE := Lib.hid (do_30 a b)
  have qa : 0 ≤ a ∧ a ≤ 18446744073709551615 := ha.out
  have qb : 0 ≤ b ∧ b ≤ 18446744073709551615 := hb.out
  go_enter Tryd.func17, Tryd.ntmps17
  go_wp2_with fail
  refine (rShift_c a (b % 64) 2 (ha.out) (by unfold B64 at *; omega) (by omega) _).mono ?_
  rintro e w' ⟨rfl, rfl⟩
  go_wp2_with fail
  go_ret
  exact ⟨ret_int HE.out.symm, rfl⟩
set_option maxHeartbeats 400000 in
theorem rplain_31 (a b : Int) (ha : Hid (B64 a)) (hb : Hid (B64 b)) (w : World) : Calls Tryd.prog 17 #[.int .i64 31, .int .u64 a, .int .u64 b] w fun e w' => e = .returned (.int .u64 (doV 31 a b)) ∧ w = w' := by
  have HE := Lib.hid (do_31 a b)
  have qa : 0 ≤ a ∧ a ≤ 18446744073709551615 := ha.out
  have qb : 0 ≤ b ∧ b ≤ 18446744073709551615 := hb.out
  go_enter Tryd.func17, Tryd.ntmps17
  go_wp2_with fail
  go_ret
  exact ⟨ret_int HE.out.symm, rfl⟩
set_option maxHeartbeats 400000 in
theorem rplain_32 (a b : Int) (ha : Hid (B64 a)) (hb : Hid (B64 b)) (w : World) : Calls Tryd.prog 17 #[.int .i64 32, .int .u64 a, .int .u64 b] w fun e w' => e = .returned (.int .u64 (doV 32 a b)) ∧ w = w' := by
  have HE := Lib.hid (do_32 a b)
  have qa : 0 ≤ a ∧ a ≤ 18446744073709551615 := ha.out
  have qb : 0 ≤ b ∧ b ≤ 18446744073709551615 := hb.out
  go_enter Tryd.func17, Tryd.ntmps17
  go_wp2_with fail
  go_ret
  exact ⟨ret_int HE.out.symm, rfl⟩
set_option maxHeartbeats 400000 in
theorem rplain_33 (a b : Int) (ha : Hid (B64 a)) (hb : Hid (B64 b)) (w : World) : Calls Tryd.prog 17 #[.int .i64 33, .int .u64 a, .int .u64 b] w fun e w' => e = .returned (.int .u64 (doV 33 a b)) ∧ w = w' := by
  have HE := Lib.hid (do_33 a b)
  have qa : 0 ≤ a ∧ a ≤ 18446744073709551615 := ha.out
  have qb : 0 ≤ b ∧ b ≤ 18446744073709551615 := hb.out
  go_enter Tryd.func17, Tryd.ntmps17
  go_wp2_with fail
  refine (rShift_c a (b % 64) 0 (ha.out) (by unfold B64 at *; omega) (by omega) _).mono ?_
  rintro e w' ⟨rfl, rfl⟩
  go_wp2_with fail
  go_ret
  exact ⟨ret_int HE.out.symm, rfl⟩
set_option maxHeartbeats 400000 in
theorem rplain_34 (a b : Int) (ha : Hid (B64 a)) (hb : Hid (B64 b)) (w : World) : Calls Tryd.prog 17 #[.int .i64 34, .int .u64 a, .int .u64 b] w fun e w' => e = .returned (.int .u64 (doV 34 a b)) ∧ w = w' := by
  have HE := Lib.hid (show doV 34 a b = bitV (lessV a b true) from rfl)
  have qa : 0 ≤ a ∧ a ≤ 18446744073709551615 := ha.out
  have qb : 0 ≤ b ∧ b ≤ 18446744073709551615 := hb.out
  go_enter Tryd.func17, Tryd.ntmps17
  go_wp2_with fail
  refine (rless_c a b true ha.out hb.out _).mono ?_
  rintro e w' ⟨rfl, rfl⟩
  go_wp2_with fail
  refine (rbit_c _ _).mono ?_
  rintro e w' ⟨rfl, rfl⟩
  go_wp2_with fail
  go_ret
  exact ⟨ret_int HE.out.symm, rfl⟩
set_option maxHeartbeats 400000 in
theorem rplain_35 (a b : Int) (ha : Hid (B64 a)) (hb : Hid (B64 b)) (w : World) : Calls Tryd.prog 17 #[.int .i64 35, .int .u64 a, .int .u64 b] w fun e w' => e = .returned (.int .u64 (doV 35 a b)) ∧ w = w' := by
  have HE := Lib.hid (show doV 35 a b = bitV (lessV a b false) from rfl)
  have qa : 0 ≤ a ∧ a ≤ 18446744073709551615 := ha.out
  have qb : 0 ≤ b ∧ b ≤ 18446744073709551615 := hb.out
  go_enter Tryd.func17, Tryd.ntmps17
  go_wp2_with fail
  refine (rless_c a b false ha.out hb.out _).mono ?_
  rintro e w' ⟨rfl, rfl⟩
  go_wp2_with fail
  refine (rbit_c _ _).mono ?_
  rintro e w' ⟨rfl, rfl⟩
  go_wp2_with fail
  go_ret
  exact ⟨ret_int HE.out.symm, rfl⟩
set_option maxHeartbeats 400000 in
theorem rplain_36 (a b : Int) (ha : Hid (B64 a)) (hb : Hid (B64 b)) (w : World) : Calls Tryd.prog 17 #[.int .i64 36, .int .u64 a, .int .u64 b] w fun e w' => e = .returned (.int .u64 (doV 36 a b)) ∧ w = w' := by
  have HE := Lib.hid (do_36 a b)
  have qa : 0 ≤ a ∧ a ≤ 18446744073709551615 := ha.out
  have qb : 0 ≤ b ∧ b ≤ 18446744073709551615 := hb.out
  go_enter Tryd.func17, Tryd.ntmps17
  go_wp2_with fail
  go_ret
  exact ⟨ret_int HE.out.symm, rfl⟩
set_option maxHeartbeats 400000 in
theorem rplain_37 (a b : Int) (ha : Hid (B64 a)) (hb : Hid (B64 b)) (w : World) : Calls Tryd.prog 17 #[.int .i64 37, .int .u64 a, .int .u64 b] w fun e w' => e = .returned (.int .u64 (doV 37 a b)) ∧ w = w' := by
  have HE := Lib.hid (do_37 a b)
  have qa : 0 ≤ a ∧ a ≤ 18446744073709551615 := ha.out
  have qb : 0 ≤ b ∧ b ≤ 18446744073709551615 := hb.out
  go_enter Tryd.func17, Tryd.ntmps17
  go_wp2_with fail
  refine (rShift_c a (b % 64) 1 (ha.out) (by unfold B64 at *; omega) (by omega) _).mono ?_
  rintro e w' ⟨rfl, rfl⟩
  go_wp2_with fail
  go_ret
  exact ⟨ret_int HE.out.symm, rfl⟩
set_option maxHeartbeats 400000 in
theorem rplain_38 (a b : Int) (ha : Hid (B64 a)) (hb : Hid (B64 b)) (w : World) : Calls Tryd.prog 17 #[.int .i64 38, .int .u64 a, .int .u64 b] w fun e w' => e = .returned (.int .u64 (doV 38 a b)) ∧ w = w' := by
  have HE := Lib.hid (do_38 a b)
  have qa : 0 ≤ a ∧ a ≤ 18446744073709551615 := ha.out
  have qb : 0 ≤ b ∧ b ≤ 18446744073709551615 := hb.out
  go_enter Tryd.func17, Tryd.ntmps17
  go_wp2_with fail
  refine (rShift_c a (b % 64) 2 (ha.out) (by unfold B64 at *; omega) (by omega) _).mono ?_
  rintro e w' ⟨rfl, rfl⟩
  go_wp2_with fail
  go_ret
  exact ⟨ret_int HE.out.symm, rfl⟩
set_option maxHeartbeats 400000 in
theorem rplain_39 (a b : Int) (ha : Hid (B64 a)) (hb : Hid (B64 b)) (w : World) : Calls Tryd.prog 17 #[.int .i64 39, .int .u64 a, .int .u64 b] w fun e w' => e = .returned (.int .u64 (doV 39 a b)) ∧ w = w' := by
  have HE := Lib.hid (do_39 a b)
  have qa : 0 ≤ a ∧ a ≤ 18446744073709551615 := ha.out
  have qb : 0 ≤ b ∧ b ≤ 18446744073709551615 := hb.out
  go_enter Tryd.func17, Tryd.ntmps17
  go_wp2_with fail
  go_ret
  exact ⟨ret_int HE.out.symm, rfl⟩
set_option maxHeartbeats 400000 in
theorem rplain_40 (a b : Int) (ha : Hid (B64 a)) (hb : Hid (B64 b)) (w : World) : Calls Tryd.prog 17 #[.int .i64 40, .int .u64 a, .int .u64 b] w fun e w' => e = .returned (.int .u64 (doV 40 a b)) ∧ w = w' := by
  have HE := Lib.hid (do_40 a b)
  have qa : 0 ≤ a ∧ a ≤ 18446744073709551615 := ha.out
  have qb : 0 ≤ b ∧ b ≤ 18446744073709551615 := hb.out
  go_enter Tryd.func17, Tryd.ntmps17
  go_wp2_with fail
  go_ret
  exact ⟨ret_int HE.out.symm, rfl⟩
set_option maxHeartbeats 400000 in
theorem rhalves_41 (a b : Int) (ha : Hid (B64 a)) (hb : Hid (B64 b)) (w : World) : Calls Tryd.prog 18 #[.int .i64 41, .int .u64 a, .int .u64 b] w fun e w' => e = .returned (.int .u64 (doV 41 a b)) ∧ w = w' := by
  have HE := Lib.hid (do_41 a b)
  have qa : 0 ≤ a ∧ a ≤ 18446744073709551615 := ha.out
  have qb : 0 ≤ b ∧ b ≤ 18446744073709551615 := hb.out
  go_enter Tryd.func18, Tryd.ntmps18
  go_wp2_with fail
  refine (rSext_c _ 32 (u64_bd (a + b)) (by omega) _).mono ?_
  rintro e w' ⟨rfl, rfl⟩
  go_wp2_with fail
  go_ret
  exact ⟨ret_int HE.out.symm, rfl⟩
set_option maxHeartbeats 400000 in
theorem rhalves_42 (a b : Int) (ha : Hid (B64 a)) (hb : Hid (B64 b)) (w : World) : Calls Tryd.prog 18 #[.int .i64 42, .int .u64 a, .int .u64 b] w fun e w' => e = .returned (.int .u64 (doV 42 a b)) ∧ w = w' := by
  have HE := Lib.hid (do_42 a b)
  have qa : 0 ≤ a ∧ a ≤ 18446744073709551615 := ha.out
  have qb : 0 ≤ b ∧ b ≤ 18446744073709551615 := hb.out
  go_enter Tryd.func18, Tryd.ntmps18
  go_wp2_with fail
  refine (rShift_c a (b % 32) 0 (ha.out) (by unfold B64 at *; omega) (by omega) _).mono ?_
  rintro e w' ⟨rfl, rfl⟩
  go_wp2_with fail
  refine (rSext_c _ 32 (shiftV_bd _ _ _ ha.out) (by omega) _).mono ?_
  rintro e w' ⟨rfl, rfl⟩
  go_wp2_with fail
  go_ret
  exact ⟨ret_int ((sll_same a b).trans HE.out.symm), rfl⟩
set_option maxHeartbeats 400000 in
theorem rhalves_43 (a b : Int) (ha : Hid (B64 a)) (hb : Hid (B64 b)) (w : World) : Calls Tryd.prog 18 #[.int .i64 43, .int .u64 a, .int .u64 b] w fun e w' => e = .returned (.int .u64 (doV 43 a b)) ∧ w = w' := by
  have HE := Lib.hid (do_43 a b)
  have qa : 0 ≤ a ∧ a ≤ 18446744073709551615 := ha.out
  have qb : 0 ≤ b ∧ b ≤ 18446744073709551615 := hb.out
  go_enter Tryd.func18, Tryd.ntmps18
  go_wp2_with fail
  refine (rShift_c (a % 4294967296) (b % 32) 1 (lowV_bd ha.out) (by unfold B64 at *; omega) (by omega) _).mono ?_
  rintro e w' ⟨rfl, rfl⟩
  go_wp2_with fail
  refine (rSext_c _ 32 (shiftV_bd _ _ _ (lowV_bd ha.out)) (by omega) _).mono ?_
  rintro e w' ⟨rfl, rfl⟩
  go_wp2_with fail
  go_ret
  exact ⟨ret_int HE.out.symm, rfl⟩
set_option maxHeartbeats 400000 in
theorem rhalves_44 (a b : Int) (ha : Hid (B64 a)) (hb : Hid (B64 b)) (w : World) : Calls Tryd.prog 18 #[.int .i64 44, .int .u64 a, .int .u64 b] w fun e w' => e = .returned (.int .u64 (doV 44 a b)) ∧ w = w' := by
  have HE := Lib.hid (do_44 a b)
  have qa : 0 ≤ a ∧ a ≤ 18446744073709551615 := ha.out
  have qb : 0 ≤ b ∧ b ≤ 18446744073709551615 := hb.out
  go_enter Tryd.func18, Tryd.ntmps18
  go_wp2_with fail
  refine (rSext_c a 32 (ha.out) (by omega) _).mono ?_
  rintro e w' ⟨rfl, rfl⟩
  go_wp2_with fail
  refine (rShift_c _ (b % 32) 2 (lowS_bd ha.out) (by unfold B64 at *; omega) (by omega) _).mono ?_
  rintro e w' ⟨rfl, rfl⟩
  go_wp2_with fail
  refine (rSext_c _ 32 (shiftV_bd _ _ _ (lowS_bd ha.out)) (by omega) _).mono ?_
  rintro e w' ⟨rfl, rfl⟩
  go_wp2_with fail
  go_ret
  exact ⟨ret_int HE.out.symm, rfl⟩
set_option maxHeartbeats 400000 in
theorem rhalves_45 (a b : Int) (ha : Hid (B64 a)) (hb : Hid (B64 b)) (w : World) : Calls Tryd.prog 18 #[.int .i64 45, .int .u64 a, .int .u64 b] w fun e w' => e = .returned (.int .u64 (doV 45 a b)) ∧ w = w' := by
  have HE := Lib.hid (do_45 a b)
  have qa : 0 ≤ a ∧ a ≤ 18446744073709551615 := ha.out
  have qb : 0 ≤ b ∧ b ≤ 18446744073709551615 := hb.out
  go_enter Tryd.func18, Tryd.ntmps18
  go_wp2_with fail
  refine (rSext_c _ 32 (u64_bd (a + b)) (by omega) _).mono ?_
  rintro e w' ⟨rfl, rfl⟩
  go_wp2_with fail
  go_ret
  exact ⟨ret_int HE.out.symm, rfl⟩
set_option maxHeartbeats 400000 in
theorem rhalves_46 (a b : Int) (ha : Hid (B64 a)) (hb : Hid (B64 b)) (w : World) : Calls Tryd.prog 18 #[.int .i64 46, .int .u64 a, .int .u64 b] w fun e w' => e = .returned (.int .u64 (doV 46 a b)) ∧ w = w' := by
  have HE := Lib.hid (do_46 a b)
  have qa : 0 ≤ a ∧ a ≤ 18446744073709551615 := ha.out
  have qb : 0 ≤ b ∧ b ≤ 18446744073709551615 := hb.out
  go_enter Tryd.func18, Tryd.ntmps18
  go_wp2_with fail
  refine (rSext_c _ 32 (u64_bd (a - b)) (by omega) _).mono ?_
  rintro e w' ⟨rfl, rfl⟩
  go_wp2_with fail
  go_ret
  exact ⟨ret_int HE.out.symm, rfl⟩
set_option maxHeartbeats 400000 in
theorem rhalves_47 (a b : Int) (ha : Hid (B64 a)) (hb : Hid (B64 b)) (w : World) : Calls Tryd.prog 18 #[.int .i64 47, .int .u64 a, .int .u64 b] w fun e w' => e = .returned (.int .u64 (doV 47 a b)) ∧ w = w' := by
  have HE := Lib.hid (do_47 a b)
  have qa : 0 ≤ a ∧ a ≤ 18446744073709551615 := ha.out
  have qb : 0 ≤ b ∧ b ≤ 18446744073709551615 := hb.out
  go_enter Tryd.func18, Tryd.ntmps18
  go_wp2_with fail
  refine (rShift_c a (b % 32) 0 (ha.out) (by unfold B64 at *; omega) (by omega) _).mono ?_
  rintro e w' ⟨rfl, rfl⟩
  go_wp2_with fail
  refine (rSext_c _ 32 (shiftV_bd _ _ _ ha.out) (by omega) _).mono ?_
  rintro e w' ⟨rfl, rfl⟩
  go_wp2_with fail
  go_ret
  exact ⟨ret_int ((sll_same a b).trans HE.out.symm), rfl⟩
set_option maxHeartbeats 400000 in
theorem rhalves_48 (a b : Int) (ha : Hid (B64 a)) (hb : Hid (B64 b)) (w : World) : Calls Tryd.prog 18 #[.int .i64 48, .int .u64 a, .int .u64 b] w fun e w' => e = .returned (.int .u64 (doV 48 a b)) ∧ w = w' := by
  have HE := Lib.hid (do_48 a b)
  have qa : 0 ≤ a ∧ a ≤ 18446744073709551615 := ha.out
  have qb : 0 ≤ b ∧ b ≤ 18446744073709551615 := hb.out
  go_enter Tryd.func18, Tryd.ntmps18
  go_wp2_with fail
  refine (rShift_c (a % 4294967296) (b % 32) 1 (lowV_bd ha.out) (by unfold B64 at *; omega) (by omega) _).mono ?_
  rintro e w' ⟨rfl, rfl⟩
  go_wp2_with fail
  refine (rSext_c _ 32 (shiftV_bd _ _ _ (lowV_bd ha.out)) (by omega) _).mono ?_
  rintro e w' ⟨rfl, rfl⟩
  go_wp2_with fail
  go_ret
  exact ⟨ret_int HE.out.symm, rfl⟩
set_option maxHeartbeats 400000 in
theorem rhalves_49 (a b : Int) (ha : Hid (B64 a)) (hb : Hid (B64 b)) (w : World) : Calls Tryd.prog 18 #[.int .i64 49, .int .u64 a, .int .u64 b] w fun e w' => e = .returned (.int .u64 (doV 49 a b)) ∧ w = w' := by
  have HE := Lib.hid (do_49 a b)
  have qa : 0 ≤ a ∧ a ≤ 18446744073709551615 := ha.out
  have qb : 0 ≤ b ∧ b ≤ 18446744073709551615 := hb.out
  go_enter Tryd.func18, Tryd.ntmps18
  go_wp2_with fail
  refine (rSext_c a 32 (ha.out) (by omega) _).mono ?_
  rintro e w' ⟨rfl, rfl⟩
  go_wp2_with fail
  refine (rShift_c _ (b % 32) 2 (lowS_bd ha.out) (by unfold B64 at *; omega) (by omega) _).mono ?_
  rintro e w' ⟨rfl, rfl⟩
  go_wp2_with fail
  refine (rSext_c _ 32 (shiftV_bd _ _ _ (lowS_bd ha.out)) (by omega) _).mono ?_
  rintro e w' ⟨rfl, rfl⟩
  go_wp2_with fail
  go_ret
  exact ⟨ret_int HE.out.symm, rfl⟩
set_option maxHeartbeats 400000 in
theorem rproducts_50 (a b : Int) (ha : Hid (B64 a)) (hb : Hid (B64 b)) (w : World) : Calls Tryd.prog 19 #[.int .i64 50, .int .u64 a, .int .u64 b] w fun e w' => e = .returned (.int .u64 (doV 50 a b)) ∧ w = w' := by
  have HE := Lib.hid (do_50 a b)
  have qa : 0 ≤ a ∧ a ≤ 18446744073709551615 := ha.out
  have qb : 0 ≤ b ∧ b ≤ 18446744073709551615 := hb.out
  go_enter Tryd.func19, Tryd.ntmps19
  go_wp2_with fail
  go_ret
  exact ⟨ret_int HE.out.symm, rfl⟩
set_option maxHeartbeats 400000 in
theorem rproducts_51 (a b : Int) (ha : Hid (B64 a)) (hb : Hid (B64 b)) (w : World) : Calls Tryd.prog 19 #[.int .i64 51, .int .u64 a, .int .u64 b] w fun e w' => e = .returned (.int .u64 (doV 51 a b)) ∧ w = w' := by
  have HE := Lib.hid (do_51 a b)
  have qa : 0 ≤ a ∧ a ≤ 18446744073709551615 := ha.out
  have qb : 0 ≤ b ∧ b ≤ 18446744073709551615 := hb.out
  go_enter Tryd.func19, Tryd.ntmps19
  go_wp2_with fail
  refine (rHigh_c a b true true ha.out hb.out _).mono ?_
  rintro e w' ⟨rfl, rfl⟩
  go_wp2_with fail
  go_ret
  exact ⟨ret_int HE.out.symm, rfl⟩
set_option maxHeartbeats 400000 in
theorem rproducts_52 (a b : Int) (ha : Hid (B64 a)) (hb : Hid (B64 b)) (w : World) : Calls Tryd.prog 19 #[.int .i64 52, .int .u64 a, .int .u64 b] w fun e w' => e = .returned (.int .u64 (doV 52 a b)) ∧ w = w' := by
  have HE := Lib.hid (do_52 a b)
  have qa : 0 ≤ a ∧ a ≤ 18446744073709551615 := ha.out
  have qb : 0 ≤ b ∧ b ≤ 18446744073709551615 := hb.out
  go_enter Tryd.func19, Tryd.ntmps19
  go_wp2_with fail
  refine (rHigh_c a b true false ha.out hb.out _).mono ?_
  rintro e w' ⟨rfl, rfl⟩
  go_wp2_with fail
  go_ret
  exact ⟨ret_int HE.out.symm, rfl⟩
set_option maxHeartbeats 400000 in
theorem rproducts_53 (a b : Int) (ha : Hid (B64 a)) (hb : Hid (B64 b)) (w : World) : Calls Tryd.prog 19 #[.int .i64 53, .int .u64 a, .int .u64 b] w fun e w' => e = .returned (.int .u64 (doV 53 a b)) ∧ w = w' := by
  have HE := Lib.hid (do_53 a b)
  have qa : 0 ≤ a ∧ a ≤ 18446744073709551615 := ha.out
  have qb : 0 ≤ b ∧ b ≤ 18446744073709551615 := hb.out
  go_enter Tryd.func19, Tryd.ntmps19
  go_wp2_with fail
  refine (rHigh_c a b false false ha.out hb.out _).mono ?_
  rintro e w' ⟨rfl, rfl⟩
  go_wp2_with fail
  go_ret
  exact ⟨ret_int HE.out.symm, rfl⟩
set_option maxHeartbeats 400000 in
theorem rproducts_54 (a b : Int) (ha : Hid (B64 a)) (hb : Hid (B64 b)) (w : World) : Calls Tryd.prog 19 #[.int .i64 54, .int .u64 a, .int .u64 b] w fun e w' => e = .returned (.int .u64 (doV 54 a b)) ∧ w = w' := by
  have HE := Lib.hid (do_54 a b)
  have qa : 0 ≤ a ∧ a ≤ 18446744073709551615 := ha.out
  have qb : 0 ≤ b ∧ b ≤ 18446744073709551615 := hb.out
  go_enter Tryd.func19, Tryd.ntmps19
  go_wp2_with fail
  refine (rDiv_c a b true ha.out hb.out _).mono ?_
  rintro e w' ⟨rfl, rfl⟩
  go_wp2_with fail
  go_ret
  exact ⟨ret_int HE.out.symm, rfl⟩
set_option maxHeartbeats 400000 in
theorem rproducts_55 (a b : Int) (ha : Hid (B64 a)) (hb : Hid (B64 b)) (w : World) : Calls Tryd.prog 19 #[.int .i64 55, .int .u64 a, .int .u64 b] w fun e w' => e = .returned (.int .u64 (doV 55 a b)) ∧ w = w' := by
  have HE := Lib.hid (do_55 a b)
  have qa : 0 ≤ a ∧ a ≤ 18446744073709551615 := ha.out
  have qb : 0 ≤ b ∧ b ≤ 18446744073709551615 := hb.out
  go_enter Tryd.func19, Tryd.ntmps19
  go_wp2_with fail
  refine (rDiv_c a b false ha.out hb.out _).mono ?_
  rintro e w' ⟨rfl, rfl⟩
  go_wp2_with fail
  go_ret
  exact ⟨ret_int HE.out.symm, rfl⟩
set_option maxHeartbeats 400000 in
theorem rproducts_56 (a b : Int) (ha : Hid (B64 a)) (hb : Hid (B64 b)) (w : World) : Calls Tryd.prog 19 #[.int .i64 56, .int .u64 a, .int .u64 b] w fun e w' => e = .returned (.int .u64 (doV 56 a b)) ∧ w = w' := by
  have HE := Lib.hid (do_56 a b)
  have qa : 0 ≤ a ∧ a ≤ 18446744073709551615 := ha.out
  have qb : 0 ≤ b ∧ b ≤ 18446744073709551615 := hb.out
  go_enter Tryd.func19, Tryd.ntmps19
  go_wp2_with fail
  refine (rRem_c a b true ha.out hb.out _).mono ?_
  rintro e w' ⟨rfl, rfl⟩
  go_wp2_with fail
  go_ret
  exact ⟨ret_int HE.out.symm, rfl⟩
set_option maxHeartbeats 400000 in
theorem rproducts_57 (a b : Int) (ha : Hid (B64 a)) (hb : Hid (B64 b)) (w : World) : Calls Tryd.prog 19 #[.int .i64 57, .int .u64 a, .int .u64 b] w fun e w' => e = .returned (.int .u64 (doV 57 a b)) ∧ w = w' := by
  have HE := Lib.hid (do_57 a b)
  have qa : 0 ≤ a ∧ a ≤ 18446744073709551615 := ha.out
  have qb : 0 ≤ b ∧ b ≤ 18446744073709551615 := hb.out
  go_enter Tryd.func19, Tryd.ntmps19
  go_wp2_with fail
  refine (rRem_c a b false ha.out hb.out _).mono ?_
  rintro e w' ⟨rfl, rfl⟩
  go_wp2_with fail
  go_ret
  exact ⟨ret_int HE.out.symm, rfl⟩
set_option maxHeartbeats 400000 in
theorem rproducts_58 (a b : Int) (ha : Hid (B64 a)) (hb : Hid (B64 b)) (w : World) : Calls Tryd.prog 19 #[.int .i64 58, .int .u64 a, .int .u64 b] w fun e w' => e = .returned (.int .u64 (doV 58 a b)) ∧ w = w' := by
  have HE := Lib.hid (do_58 a b)
  have qa : 0 ≤ a ∧ a ≤ 18446744073709551615 := ha.out
  have qb : 0 ≤ b ∧ b ≤ 18446744073709551615 := hb.out
  go_enter Tryd.func19, Tryd.ntmps19
  go_wp2_with fail
  refine (rSext_c _ 32 (u64_bd (a * b)) (by omega) _).mono ?_
  rintro e w' ⟨rfl, rfl⟩
  go_wp2_with fail
  go_ret
  exact ⟨ret_int HE.out.symm, rfl⟩
set_option maxHeartbeats 400000 in
theorem rproducts_59 (a b : Int) (ha : Hid (B64 a)) (hb : Hid (B64 b)) (w : World) : Calls Tryd.prog 19 #[.int .i64 59, .int .u64 a, .int .u64 b] w fun e w' => e = .returned (.int .u64 (doV 59 a b)) ∧ w = w' := by
  have HE := Lib.hid (do_59 a b)
  have qa : 0 ≤ a ∧ a ≤ 18446744073709551615 := ha.out
  have qb : 0 ≤ b ∧ b ≤ 18446744073709551615 := hb.out
  go_enter Tryd.func19, Tryd.ntmps19
  go_wp2_with fail
  refine (rDiv32_c a b true ha.out hb.out _).mono ?_
  rintro e w' ⟨rfl, rfl⟩
  go_wp2_with fail
  go_ret
  exact ⟨ret_int HE.out.symm, rfl⟩
set_option maxHeartbeats 400000 in
theorem rproducts_60 (a b : Int) (ha : Hid (B64 a)) (hb : Hid (B64 b)) (w : World) : Calls Tryd.prog 19 #[.int .i64 60, .int .u64 a, .int .u64 b] w fun e w' => e = .returned (.int .u64 (doV 60 a b)) ∧ w = w' := by
  have HE := Lib.hid (do_60 a b)
  have qa : 0 ≤ a ∧ a ≤ 18446744073709551615 := ha.out
  have qb : 0 ≤ b ∧ b ≤ 18446744073709551615 := hb.out
  go_enter Tryd.func19, Tryd.ntmps19
  go_wp2_with fail
  refine (rDiv32_c a b false ha.out hb.out _).mono ?_
  rintro e w' ⟨rfl, rfl⟩
  go_wp2_with fail
  go_ret
  exact ⟨ret_int HE.out.symm, rfl⟩
set_option maxHeartbeats 400000 in
theorem rproducts_61 (a b : Int) (ha : Hid (B64 a)) (hb : Hid (B64 b)) (w : World) : Calls Tryd.prog 19 #[.int .i64 61, .int .u64 a, .int .u64 b] w fun e w' => e = .returned (.int .u64 (doV 61 a b)) ∧ w = w' := by
  have HE := Lib.hid (do_61 a b)
  have qa : 0 ≤ a ∧ a ≤ 18446744073709551615 := ha.out
  have qb : 0 ≤ b ∧ b ≤ 18446744073709551615 := hb.out
  go_enter Tryd.func19, Tryd.ntmps19
  go_wp2_with fail
  refine (rRem32_c a b true ha.out hb.out _).mono ?_
  rintro e w' ⟨rfl, rfl⟩
  go_wp2_with fail
  go_ret
  exact ⟨ret_int HE.out.symm, rfl⟩
set_option maxHeartbeats 400000 in
theorem rproducts_62 (a b : Int) (ha : Hid (B64 a)) (hb : Hid (B64 b)) (w : World) : Calls Tryd.prog 19 #[.int .i64 62, .int .u64 a, .int .u64 b] w fun e w' => e = .returned (.int .u64 (doV 62 a b)) ∧ w = w' := by
  have HE := Lib.hid (do_62 a b)
  have qa : 0 ≤ a ∧ a ≤ 18446744073709551615 := ha.out
  have qb : 0 ≤ b ∧ b ≤ 18446744073709551615 := hb.out
  go_enter Tryd.func19, Tryd.ntmps19
  go_wp2_with fail
  refine (rRem32_c a b false ha.out hb.out _).mono ?_
  rintro e w' ⟨rfl, rfl⟩
  go_wp2_with fail
  go_ret
  exact ⟨ret_int HE.out.symm, rfl⟩
end Go.Proofs.YtmabfocpcbaniaaDoor
