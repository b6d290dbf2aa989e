/-
  What the document's own answers for layer 1 are, on: Div, Rem, Div32, Rem32, Shift: the program's.
  Conditions: the arguments are numbers of their kinds.
-/
import Derived.Test.YtmabfocpcbaniaaDoorWordR2
import Derived.Test.YtmabfocpcbaniaaDoorWordRW
namespace Go.Proofs.YtmabfocpcbaniaaDoor
open Go Go.RowKit W
set_option linter.unusedVariables false
set_option linter.unusedSimpArgs false

theorem rSize_s (x : Int) (hx : 0 ≤ x ∧ x ≤ 18446744073709551615) (w : World) :
    Calls Tryd.prog 61 #[.int .u64 x] w fun e w' => e = .returned (.int .u64 (sizeV x)) ∧ w = w' := rSize_c x hx w

set_option maxHeartbeats 1000000 in
theorem rDiv_c (a b : Int) (s : Bool) (ha : 0 ≤ a ∧ a ≤ 18446744073709551615) (hb : 0 ≤ b ∧ b ≤ 18446744073709551615) (w : World) :
    Calls Tryd.prog 33 #[.int .u64 a, .int .u64 b, .bool s] w fun e w' => e = .returned (.int .u64 (divV a b s)) ∧ w = w' := by
  by_cases hz : b = 0
  · subst hz
    have Z := Lib.hid (div_by_0 a ha)
    go_enter Tryd.func33, Tryd.ntmps33
    go_wp2_with fail
    go_ret
    cases s
    · exact ⟨ret_int Z.out.1.symm, rfl⟩
    · exact ⟨ret_int Z.out.2.2.1.symm, rfl⟩
  · have hp : 0 < b := by omega
    have hz' : (b == 0) = false := by simpa using hz
    cases s
    · have V : Hid (divV a b false = a / b) := Lib.hid (by simp only [divV, quoU, Bool.false_eq_true, if_false]; rw [if_neg hz])
      clear hz
      go_enter Tryd.func33, Tryd.ntmps33
      go_wp2_with fail
      refine (plain_c _ _ ha ⟨hp, hb.2⟩ _).mono ?_
      rintro e w' ⟨rfl, rfl⟩
      go_wp2_with fail
      go_ret
      exact ⟨ret_int V.out.symm, rfl⟩
    · have V := Lib.hid (divS_eq a b ha hb hp)
      have sa := sizeV_bd a ha
      have sb := sizeV_bd b hb
      have sp := sb.2.2 hp
      have q0 : 0 ≤ sizeV a / sizeV b := Int.ediv_nonneg sa.1 sb.1
      have q1 : sizeV a / sizeV b ≤ 9223372036854775808 := by have := Int.ediv_le_self (sizeV b) sa.1; omega
      clear hz
      cases hda : decide (9223372036854775808 ≤ a) <;> cases hdb : decide (9223372036854775808 ≤ b)
      all_goals
        have NA := Lib.hid hda
        have NB := Lib.hid hdb
        go_enter Tryd.func33, Tryd.ntmps33
        go_wp2_with fail
        refine (rSize_s _ ha _).mono ?_
        rintro e w' ⟨rfl, rfl⟩
        go_wp2_with fail
        refine (rSize_s _ hb _).mono ?_
        rintro e w' ⟨rfl, rfl⟩
        go_wp2_with fail
        refine (plain_c _ _ ⟨by omega, by omega⟩ ⟨by omega, by omega⟩ _).mono ?_
        rintro e w' ⟨rfl, rfl⟩
        go_wp2_with fail
        refine (rBelow_c _ ha _).mono ?_
        rintro e w' ⟨rfl, rfl⟩
        go_wp2_with fail
        refine (rBelow_c _ hb _).mono ?_
        rintro e w' ⟨rfl, rfl⟩
        go_wp2_with fail
        go_ret
        refine ⟨ret_int ?_, rfl⟩
        rw [V.out]
        have x := NA.out
        have y := NB.out
        simp only [decide_eq_true_eq, decide_eq_false_iff_not] at x y
        simp [x, y]

set_option maxHeartbeats 1000000 in
theorem rRem_c (a b : Int) (s : Bool) (ha : 0 ≤ a ∧ a ≤ 18446744073709551615) (hb : 0 ≤ b ∧ b ≤ 18446744073709551615) (w : World) :
    Calls Tryd.prog 34 #[.int .u64 a, .int .u64 b, .bool s] w fun e w' => e = .returned (.int .u64 (remV a b s)) ∧ w = w' := by
  by_cases hz : b = 0
  · subst hz
    have Z := Lib.hid (div_by_0 a ha)
    go_enter Tryd.func34, Tryd.ntmps34
    go_wp2_with fail
    go_ret
    cases s
    · exact ⟨ret_int Z.out.2.1.symm, rfl⟩
    · exact ⟨ret_int Z.out.2.2.2.symm, rfl⟩
  · have hp : 0 < b := by omega
    have hz' : (b == 0) = false := by simpa using hz
    cases s
    · have V : Hid (remV a b false = a % b) := Lib.hid (by simp only [remV, remU, Bool.false_eq_true, if_false]; rw [if_neg hz])
      clear hz
      go_enter Tryd.func34, Tryd.ntmps34
      go_wp2_with fail
      refine (plain_c _ _ ha ⟨hp, hb.2⟩ _).mono ?_
      rintro e w' ⟨rfl, rfl⟩
      go_wp2_with fail
      go_ret
      exact ⟨ret_int V.out.symm, rfl⟩
    · have V := Lib.hid (remS_eq a b ha hb hp)
      have sa := sizeV_bd a ha
      have sb := sizeV_bd b hb
      have sp := sb.2.2 hp
      clear hz
      by_cases na : 9223372036854775808 ≤ a
      all_goals
        go_enter Tryd.func34, Tryd.ntmps34
        go_wp2_with fail
        refine (rSize_s _ ha _).mono ?_
        rintro e w' ⟨rfl, rfl⟩
        go_wp2_with fail
        refine (rSize_s _ hb _).mono ?_
        rintro e w' ⟨rfl, rfl⟩
        go_wp2_with fail
        refine (plain_c _ _ ⟨by omega, by omega⟩ ⟨by omega, by omega⟩ _).mono ?_
        rintro e w' ⟨rfl, rfl⟩
        go_wp2_with fail
        refine (rBelow_c _ ha _).mono ?_
        rintro e w' ⟨rfl, rfl⟩
        go_wp2_with fail
        go_ret
        refine ⟨ret_int ?_, rfl⟩
        rw [V.out]
      · rw [if_pos na]
        try (simp only [u64_eq]; omega)
      · rw [if_neg (by omega)]

set_option maxHeartbeats 400000 in
theorem rHalf_c (x : Int) (s : Bool) (hx : 0 ≤ x ∧ x ≤ 18446744073709551615) (w : World) :
    Calls Tryd.prog 62 #[.int .u64 x, .bool s] w fun e w' => e = .returned (.int .u64 (halfV x s)) ∧ w = w' := by
  cases s
  · go_enter Tryd.func62, Tryd.ntmps62
    go_wp2_with fail
    go_ret
    exact ⟨ret_int rfl, rfl⟩
  · go_enter Tryd.func62, Tryd.ntmps62
    go_wp2_with fail
    refine (rSext_c _ _ hx (by omega) _).mono ?_
    rintro e w' ⟨rfl, rfl⟩
    go_wp2_with fail
    go_ret
    exact ⟨ret_int rfl, rfl⟩
set_option maxHeartbeats 400000 in
theorem rDiv32_c (a b : Int) (s : Bool) (ha : 0 ≤ a ∧ a ≤ 18446744073709551615) (hb : 0 ≤ b ∧ b ≤ 18446744073709551615) (w : World) :
    Calls Tryd.prog 35 #[.int .u64 a, .int .u64 b, .bool s] w fun e w' => e = .returned (.int .u64 (div32V a b s)) ∧ w = w' := by
  have xa := halfV_bd a s ha
  have xb := halfV_bd b s hb
  have V := Lib.hid (div32_eq a b s)
  go_enter Tryd.func35, Tryd.ntmps35
  go_wp2_with fail
  refine (rHalf_c _ _ ha _).mono ?_
  rintro e w' ⟨rfl, rfl⟩
  go_wp2_with fail
  refine (rHalf_c _ _ hb _).mono ?_
  rintro e w' ⟨rfl, rfl⟩
  go_wp2_with fail
  refine (rDiv_c _ _ _ xa xb _).mono ?_
  rintro e w' ⟨rfl, rfl⟩
  go_wp2_with fail
  refine (rSext_c _ _ (divV_bd _ _ _ xa xb.1) (by omega) _).mono ?_
  rintro e w' ⟨rfl, rfl⟩
  go_wp2_with fail
  go_ret
  exact ⟨ret_int V.out, rfl⟩
set_option maxHeartbeats 400000 in
theorem rRem32_c (a b : Int) (s : Bool) (ha : 0 ≤ a ∧ a ≤ 18446744073709551615) (hb : 0 ≤ b ∧ b ≤ 18446744073709551615) (w : World) :
    Calls Tryd.prog 36 #[.int .u64 a, .int .u64 b, .bool s] w fun e w' => e = .returned (.int .u64 (rem32V a b s)) ∧ w = w' := by
  have xa := halfV_bd a s ha
  have xb := halfV_bd b s hb
  have V := Lib.hid (rem32_eq a b s)
  go_enter Tryd.func36, Tryd.ntmps36
  go_wp2_with fail
  refine (rHalf_c _ _ ha _).mono ?_
  rintro e w' ⟨rfl, rfl⟩
  go_wp2_with fail
  refine (rHalf_c _ _ hb _).mono ?_
  rintro e w' ⟨rfl, rfl⟩
  go_wp2_with fail
  refine (rRem_c _ _ _ xa xb _).mono ?_
  rintro e w' ⟨rfl, rfl⟩
  go_wp2_with fail
  refine (rSext_c _ _ (remV_bd _ _ _ xa xb.1) (by omega) _).mono ?_
  rintro e w' ⟨rfl, rfl⟩
  go_wp2_with fail
  go_ret
  exact ⟨ret_int V.out, rfl⟩

set_option maxHeartbeats 1000000 in
theorem rShift_c (x b k : Int) (hx : 0 ≤ x ∧ x ≤ 18446744073709551615) (hb : -9223372036854775808 ≤ b ∧ b ≤ 9223372036854775807) (hk : -9223372036854775808 ≤ k ∧ k ≤ 9223372036854775807) (w : World) :
    Calls Tryd.prog 30 #[.int .u64 x, .int .i64 b, .int .i64 k] w fun e w' => e = .returned (.int .u64 (shiftV x b k)) ∧ w = w' := by
  have ha := and63i b
  have A := Lib.hid (shiftV_at x b k)
  have Z := Lib.hid (shiftV_zero x k hx)
  have hm : 0 ≤ b % 64 ∧ b % 64 ≤ 63 := by omega
  generalize shiftV x b k = R at *
  go_enter Tryd.func30, Tryd.ntmps30
  go_wp2_with fail
  go_loop [0, 7] (fun y i => ∃ j : Nat, (j : Int) ≤ b % 64 ∧ y = .int .u64 (shiftV x j k) ∧ i = .int .i64 j) (fun _ i => (b % 64 - intOf i).toNat)
  case atStart => exact ⟨0, by omega, by rw [show ((0 : Nat) : Int) = 0 from rfl, Z.out], rfl⟩
  case round =>
    obtain ⟨j, hj, rfl, rfl⟩ := hrel
    by_cases hlt : (j : Int) < b % 64
    · have yb := shiftV_bd x j k hx
      have S := Lib.hid (shiftV_add x j 1 k hx (by omega) (by omega) (by omega))
      by_cases k0 : k = 0
      · subst k0
        have O := Lib.hid (shiftV_one0 (shiftV x j 0))
        generalize shiftV x j 0 = y at *
        go_wp2_with fail
        go_round
        case rel => exact ⟨j + 1, by omega, by rw [show ((j + 1 : Nat) : Int) = j + 1 from rfl, ← S.out, O.out], by go_num⟩
        case measure => simp [intOf] <;> omega
      · by_cases k1 : k = 1
        · subst k1
          have O := Lib.hid (shiftV_one1 (shiftV x j 1))
          generalize shiftV x j 1 = y at *
          go_wp2_with fail
          go_round
          case rel => exact ⟨j + 1, by omega, by rw [show ((j + 1 : Nat) : Int) = j + 1 from rfl, ← S.out, O.out], by go_num⟩
          case measure => simp [intOf] <;> omega
        · by_cases k2 : k = 2
          · subst k2
            have O := Lib.hid (shiftV_one2 (shiftV x j 2) yb)
            generalize shiftV x j 2 = y at *
            go_wp2_with fail
            go_round
            case rel => exact ⟨j + 1, by omega, by rw [show ((j + 1 : Nat) : Int) = j + 1 from rfl, ← S.out, O.out], by go_num⟩
            case measure => simp [intOf] <;> omega
          · have O := Lib.hid (shiftV_else (shiftV x j k) 1 k k0 k1 k2)
            have e0 : (k == 0) = false := by simpa using k0
            have e1 : (k == 1) = false := by simpa using k1
            have e2 : (k == 2) = false := by simpa using k2
            clear k0 k1 k2
            generalize shiftV x j k = y at *
            go_wp2_with fail
            go_round
            case rel => exact ⟨j + 1, by omega, by rw [show ((j + 1 : Nat) : Int) = j + 1 from rfl, ← S.out, O.out], by go_num⟩
            case measure => simp [intOf] <;> omega
    · have E : Hid ((j : Int) = b % 64) := Lib.hid (by omega)
      go_wp2_with fail
      go_ret
      refine ⟨ret_int ?_, rfl⟩
      rw [E.out, A.out]
end Go.Proofs.YtmabfocpcbaniaaDoor
