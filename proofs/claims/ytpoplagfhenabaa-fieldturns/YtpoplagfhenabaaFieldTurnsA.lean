/-
  For the law FieldTurns: the formats 1 and 2, a bit from 7 on.
  Conditions: the arguments are numbers of their kinds.
-/
import Derived.Test.YtpoplagfhenabaaFieldTurnsL
namespace Go.Proofs.Ytpoplagfhenabaa.fieldTurns
open Go Go.RowKit F W M
set_option linter.unusedVariables false

set_option maxRecDepth 100000 in
set_option maxHeartbeats 4000000 in
theorem walkA (w : World) (a0 a1 a2 : Int) (h0 : 0 ≤ a0 ∧ a0 ≤ 4294967295) (h1 : 0 ≤ a1 ∧ a1 ≤ 255) (h2 : 0 ≤ a2 ∧ a2 ≤ 255) (hfs : 1 + a2 % 5 = 1 ∨ 1 + a2 % 5 = 2) (h7 : 7 ≤ a1 % 32) :
    Calls Try.prog 6 #[.int .u32 a0, .int .u8 a1, .int .u8 a2] w fun e w' => e = .returned (.bool true) ∧ Below w.heap.size w w' := by
  obtain ⟨x, rfl⟩ : ∃ x : Nat, a0 = x := ⟨a0.toNat, by omega⟩
  have hx : x < 4294967296 := by omega
  obtain ⟨k, hk, ek, e32⟩ := b_and31 a1 h1
  obtain ⟨f, ef⟩ : ∃ f : Int, 1 + a2 % 5 = f := ⟨_, rfl⟩
  rw [ef] at hfs
  have hf : 1 ≤ f ∧ f ≤ 5 := by omega
  have X := xor_word x k hx hk
  have ex := X.1
  have hy := X.2
  have HA := Lib.hid (imm_u64 x f hf)
  have HB := Lib.hid (imm_u64 (x ^^^ 2 ^ k) f hf)
  clear X
  go_enter Try.func6, Try.ntmps6
  go_wp2_with fail
  refine (shown03_c _).mono ?_
  rintro e w1 ⟨rfl, hG⟩
  go_wp2_with fail
  refine (Imm_c x f hx (by omega) _).mono ?_
  rintro e w2 ⟨rfl, hG2⟩
  have eA := HA.out
  go_wp2_with fail
  refine (Imm_c (x ^^^ 2 ^ k) f hy (by omega) _).mono ?_
  rintro e w3 ⟨rfl, hG3⟩
  have eB := HB.out
  have TO := Lib.hid (turn_out x k f hf hk)
  have T31 := Lib.hid (fun (h : k = 31) => (h ▸ turn_31 x f hf : immU x f ^^^ immU (x ^^^ 2 ^ k) f ≠ 0 ∧ immU x f / 2 ^ 63 ≠ immU (x ^^^ 2 ^ k) f / 2 ^ 63))
  have T1 := Lib.hid (turn_one x k f hf hk)
  have hA := immU_lt x f hf
  have hB := immU_lt (x ^^^ 2 ^ k) f hf
  have eX := u64_xor_nat _ _ hA hB
  have hX : immU x f ^^^ immU (x ^^^ 2 ^ k) f < 18446744073709551616 := Nat.xor_lt_two_pow (n := 64) hA hB
  have eN := and_less _ hX
  have HG := Lib.hid (gr_below (gr_trans (gr_trans hG hG2) hG3))
  clear ef eA ek ex HA HB hG hG2 hG3
  generalize hXe : immU x f ^^^ immU (x ^^^ 2 ^ k) f = X at *
  clear hXe
  generalize immU x f = A at *
  generalize immU (x ^^^ 2 ^ k) f = B at *
  generalize immV (x ^^^ 2 ^ k) f = q at *
  generalize immV x f = q1 at *
  have k7 : 7 ≤ k := by omega
  clear h7 e32
  rcases hfs with rfl | rfl
  · rcases (show (7 ≤ k ∧ k < 12) ∨ (12 ≤ k ∧ k < 20) ∨ (20 ≤ k ∧ k < 31) ∨ k = 31 by omega) with ⟨r1, r2⟩ | ⟨r1, r2⟩ | ⟨r1, r2⟩ | r
    all_goals
        first
        | (have hX0 := TO.out (by simp [outs]; omega)
           subst hX0
           clear T31 T1 TO eN hX hf k7
           go_wp2_with fail
           go_ret
           exact ⟨rfl, HG.out⟩)
        | (obtain ⟨n0, n1⟩ := T1.out (by simp [outs]; omega) (by omega)
           have eN' : bits .and .u64 (X : Int) ((X : Int) - 1) = 0 := by
             rcases eN with e | e
             · rw [e, n1]; rfl
             · exact absurd e n0
           have n2 : ¬ (X : Int) = 0 := by omega
           have n3 : 1 ≤ X := by omega
           clear T31 T1 TO eN hf n0 n1 k7
           go_wp2_with fail
           go_ret
           exact ⟨ret_bool (by simp; omega), HG.out⟩)
        | (subst r
           obtain ⟨n0, n1⟩ := T31.out rfl
           have n2 : ¬ (X : Int) = 0 := by omega
           have n3 : 1 ≤ X := by omega
           have n4 : ¬ (A : Int) / 9223372036854775808 = (B : Int) / 9223372036854775808 := by
             rw [show (2 : Nat) ^ 63 = 9223372036854775808 from rfl] at n1
             omega
           clear T31 T1 TO eN hf n0 n1 k7
           go_wp2_with fail
           go_ret
           exact ⟨ret_bool (by simp; omega), HG.out⟩)
  · rcases (show (7 ≤ k ∧ k < 12) ∨ (12 ≤ k ∧ k < 20) ∨ (20 ≤ k ∧ k < 25) ∨ (25 ≤ k ∧ k < 31) ∨ k = 31 by omega) with ⟨r1, r2⟩ | ⟨r1, r2⟩ | ⟨r1, r2⟩ | ⟨r1, r2⟩ | r
    all_goals
        first
        | (have hX0 := TO.out (by simp [outs]; omega)
           subst hX0
           clear T31 T1 TO eN hX hf k7
           go_wp2_with fail
           go_ret
           exact ⟨rfl, HG.out⟩)
        | (obtain ⟨n0, n1⟩ := T1.out (by simp [outs]; omega) (by omega)
           have eN' : bits .and .u64 (X : Int) ((X : Int) - 1) = 0 := by
             rcases eN with e | e
             · rw [e, n1]; rfl
             · exact absurd e n0
           have n2 : ¬ (X : Int) = 0 := by omega
           have n3 : 1 ≤ X := by omega
           clear T31 T1 TO eN hf n0 n1 k7
           go_wp2_with fail
           go_ret
           exact ⟨ret_bool (by simp; omega), HG.out⟩)
        | (subst r
           obtain ⟨n0, n1⟩ := T31.out rfl
           have n2 : ¬ (X : Int) = 0 := by omega
           have n3 : 1 ≤ X := by omega
           have n4 : ¬ (A : Int) / 9223372036854775808 = (B : Int) / 9223372036854775808 := by
             rw [show (2 : Nat) ^ 63 = 9223372036854775808 from rfl] at n1
             omega
           clear T31 T1 TO eN hf n0 n1 k7
           go_wp2_with fail
           go_ret
           exact ⟨ret_bool (by simp; omega), HG.out⟩)
end Go.Proofs.Ytpoplagfhenabaa.fieldTurns
