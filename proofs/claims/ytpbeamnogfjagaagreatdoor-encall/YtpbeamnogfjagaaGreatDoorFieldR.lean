/-
  What the document's own answers for layer 3 (package suzerainref03) are: contracts over the translation, each by the program's plain functions.
  Conditions: the arguments are numbers of their kinds.
-/
import Derived.Test.YtpbeamnogfjagaaGreatDoorFieldK
import Derived.Test.YtpbeamnogfjagaaGreatDoorFieldRV
import Derived.Test.YtpbeamnogfjagaaGreatDoorWordS
namespace Go.Proofs.YtpbeamnogfjagaaGreatDoor
open Go Go.RowKit F W M
set_option linter.unusedVariables false
set_option linter.unusedSimpArgs false

set_option maxHeartbeats 400000 in
theorem rSext_c (x n : Int) (hx : 0 ≤ x ∧ x ≤ 18446744073709551615) (hn : -9223372036854775808 ≤ n ∧ n ≤ 9223372036854775807) (w : World) :
    Calls Tryz.prog 54 #[.int .u64 x, .int .i64 n] w fun e w' => e = .returned (.int .u64 (sextV x n)) ∧ w = w' := by
  by_cases h : n < 1 ∨ 63 < n
  · by_cases h1 : n < 1
    all_goals
      go_enter Tryz.func54, Tryz.ntmps54
      go_wp2
      go_ret
      exact ⟨ret_int (by simp only [sextV]; rw [if_pos (by omega)]), rfl⟩
  · obtain ⟨m, rfl⟩ : ∃ m : Nat, n = m := ⟨n.toNat, by omega⟩
    have h1 : 1 ≤ m := by omega
    have h2 : m ≤ 63 := by omega
    have E := Lib.hid (sextV_eq x m h1 h2)
    have p0 := wrap_pow m (by omega)
    have p1 := wrap_pow ((m : Int) - 1) (by omega)
    have b0 := pow_bd m (by omega)
    have b1 := pow_bd ((m : Int) - 1) (by omega)
    rw [Int.toNat_natCast] at p0 b0
    rw [show ((m : Int) - 1).toNat = m - 1 from by omega] at p1 b1
    have hm := Int.emod_nonneg x (b := 2 ^ m) (by omega)
    have hm2 := Int.emod_lt_of_pos x (b := 2 ^ m) (by omega)
    clear h
    generalize sextV x m = y at *
    by_cases hl : x % 2 ^ m < 2 ^ (m - 1)
    all_goals
      go_enter Tryz.func54, Tryz.ntmps54
      go_wp2_with fail
      go_ret
      refine ⟨ret_int ?_, rfl⟩
      rw [E.out]
    · rw [if_pos hl]
    · rw [if_neg (by omega), u64_eq]
      omega

theorem bit_and (x k : Nat) (hx : x < 4294967296) : bits .and .u32 ((x : Int) / 2 ^ k) 1 = (F.get x k 1 : Nat) := by
  have hd : x / 2 ^ k ≤ x := Nat.div_le_self _ _
  rw [cast_pow, ← Int.natCast_ediv, show (1 : Int) = ((1 : Nat) : Int) from rfl, u32_and_nat _ _ (by omega) (by omega), F.get, Nat.shiftRight_eq_div_pow]
  have := Nat.and_two_pow_sub_one_eq_mod (x / 2 ^ k) 1
  rw [Nat.pow_one] at this
  rw [show (2 : Nat) ^ 1 = 2 from rfl, ← this]
set_option maxHeartbeats 400000 in
theorem rbit_c (x : Nat) (k : Int) (hx : x < 4294967296) (hk : -9223372036854775808 ≤ k ∧ k ≤ 9223372036854775807) (w : World) :
    Calls Tryz.prog 53 #[.int .u32 x, .int .i64 k] w fun e w' => e = .returned (.int .u32 (bitV x k : Nat)) ∧ w = w' := by
  by_cases h : k < 0 ∨ 31 < k
  · rw [bitV, if_pos h]
    by_cases h1 : k < 0
    · go_enter Tryz.func53, Tryz.ntmps53
      go_wp2
      go_ret
      exact ⟨rfl, rfl⟩
    · have h2 : 31 < k := by omega
      have h3 : 0 ≤ k := by omega
      clear h
      go_enter Tryz.func53, Tryz.ntmps53
      go_wp2
      go_ret
      exact ⟨rfl, rfl⟩
  · rw [bitV, if_neg h]
    obtain ⟨j, rfl⟩ : ∃ j : Nat, k = j := ⟨k.toNat, by omega⟩
    have h1 : j ≤ 31 := by omega
    rw [Int.toNat_natCast]
    have HB := Lib.hid (bit_and x j hx)
    clear h
    go_enter Tryz.func53, Tryz.ntmps53
    go_wp2
    go_ret
    exact ⟨ret_int HB.out, rfl⟩

set_option maxHeartbeats 400000 in
theorem rGet_c (x : Nat) (l m : Int) (hx : x < 4294967296) (hl : -9223372036854775808 ≤ l ∧ l ≤ 9223372036854775807) (hm : -9223372036854775808 ≤ m ∧ m ≤ 9223372036854775807) (w : World) :
    Calls Tryz.prog 31 #[.int .u32 x, .int .i64 l, .int .i64 m] w fun e w' => e = .returned (.int .u32 (gotV x l m : Nat)) ∧ w = w' := by
  by_cases h : l < 0 ∨ m < 1
  · rw [gotV, if_pos h]
    by_cases l0 : l < 0
    · go_enter Tryz.func31, Tryz.ntmps31
      go_wp2
      go_ret
      exact ⟨rfl, rfl⟩
    · have m0 : m < 1 := by omega
      have l1 : 0 ≤ l := by omega
      go_enter Tryz.func31, Tryz.ntmps31
      go_wp2
      go_ret
      exact ⟨rfl, rfl⟩
  · rw [gotV, if_neg h]
    obtain ⟨a, rfl⟩ : ∃ a : Nat, l = a := ⟨l.toNat, by omega⟩
    obtain ⟨b, rfl⟩ : ∃ b : Nat, m = b := ⟨m.toNat, by omega⟩
    have b1 : 1 ≤ b := by omega
    have b2 : b ≤ 9223372036854775807 := by omega
    have a2 : a ≤ 9223372036854775807 := by omega
    clear h hl hm
    rw [Int.toNat_natCast, Int.toNat_natCast]
    go_enter Tryz.func31, Tryz.ntmps31
    go_wp2_with fail
    go_loop [7, 8] (fun o i => ∃ k : Nat, k ≤ 32 ∧ k ≤ b ∧ i = .int .i64 k ∧ o = .int .u32 (F.get x a k : Nat)) (fun _ i => 32 - (intOf i).toNat)
    case atStart => exact ⟨0, by omega, by omega, rfl, by rw [show F.get x a 0 = 0 from by unfold F.get; omega]; rfl⟩
    case round =>
      obtain ⟨k, hk, hkb, rfl, rfl⟩ := hrel
      by_cases hlt : k < 32 ∧ k < b
      · obtain ⟨k1, k2⟩ := hlt
        have hs := get_succ x a k
        have hlt := get_lt x a (k + 1)
        have hp : (2 : Nat) ^ (k + 1) ≤ 2 ^ 32 := Nat.pow_le_pow_right (by omega) (by omega)
        rw [show (2 : Nat) ^ 32 = 4294967296 from rfl] at hp
        by_cases ha : a < 32
        · have hbit := bitV_get x (a + k) hx
          rw [← hbit] at hs
          have HS := Lib.hid (show ((F.get x a k : Int) + (bitV x ((a + k : Nat) : Int) : Int) * 2 ^ k % 4294967296) % 4294967296 = (F.get x a (k + 1) : Nat) from by
            rw [cast_pow, ← Int.natCast_mul, Nat.mul_comm (bitV x _)]; omega)
          clear hs hbit hlt hp
          go_wp2_with fail
          refine (rbit_c x ((a + k : Nat) : Int) hx (by omega) _).mono ?_
          rintro e w' ⟨rfl, rfl⟩
          go_wp2_with fail
          go_round
          case rel => exact ⟨k + 1, by omega, by omega, by go_num, by rw [← HS.out]; rfl⟩
          case measure => simp [intOf]; omega
        · have hz : F.get x a k = 0 ∧ F.get x a (k + 1) = 0 := by
            have : (2 : Nat) ^ 32 ≤ 2 ^ a := Nat.pow_le_pow_right (by omega) (by omega)
            rw [show (2 : Nat) ^ 32 = 4294967296 from rfl] at this
            unfold F.get
            rw [Nat.shiftRight_eq_div_pow, Nat.div_eq_of_lt (by omega), Nat.zero_mod, Nat.zero_mod]
            exact ⟨rfl, rfl⟩
          rw [hz.1]
          have HZ := Lib.hid hz.2
          have a32 : 32 ≤ a := by omega
          clear hs hlt hp hz
          go_wp2_with fail
          go_round
          case rel => exact ⟨k + 1, by omega, by omega, by go_num, by rw [HZ.out]; rfl⟩
          case measure => simp [intOf]; omega
      · have he : F.get x a k = F.get x a b := by
          by_cases hb : b ≤ 32
          · rw [show k = b from by omega]
          · rw [show k = 32 from by omega, get_cap x a b hx (by omega)]
        rw [he]
        by_cases k32 : k < 32
        · obtain rfl : k = b := by omega
          clear hlt he
          go_wp2_with fail
          go_ret
          exact ⟨rfl, rfl⟩
        · obtain rfl : k = 32 := by omega
          clear hlt he
          go_wp2_with fail
          go_ret
          exact ⟨rfl, rfl⟩
end Go.Proofs.YtpbeamnogfjagaaGreatDoor
