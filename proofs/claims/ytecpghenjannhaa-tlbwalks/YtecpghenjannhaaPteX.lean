/-
  Plain mathematics of layer 10, on: addresses put together of their parts.
  Conditions: none; nothing here speaks of the program.
-/
import Derived.Test.YtecpghenjannhaaPteW
namespace Go.Proofs.Ytecpghenjannhaa.P
open Go Go.RowKit W D A
set_option linter.unusedVariables false

theorem make_page {p f : Int} : pageV (makeV p f) = p % 17592186044416 := by unfold pageV makeV; omega
theorem make_flags {p f : Int} : makeV p f % 1024 = f % 1024 := by unfold makeV; omega
theorem parts {va : Int} (hv : B64 va) : vpnV va 2 * 1073741824 + vpnV va 1 * 2097152 + vpnV va 0 * 4096 + va % 4096 = va % 549755813888 := by
  unfold B64 at hv
  rw [show vpnV va 2 = va / 1073741824 % 512 from rfl, show vpnV va 1 = va / 2097152 % 512 from rfl, show vpnV va 0 = va / 4096 % 512 from rfl]
  omega
theorem at_n (k : Int) (hk : k = 0 ∨ k = 1 ∨ k = 2) {p f va : Int} (hv : B64 va) :
    atV (makeV p f) va k % szV k = va % szV k ∧ atV (makeV p f) va k / szV k = p % 17592186044416 * 4096 / szV k ∧ alignedV (makeV p f) k = decide (p % 17592186044416 * 4096 % szV k = 0) := by
  unfold B64 at hv
  unfold atV alignedV
  rw [make_page]
  rcases hk with rfl | rfl | rfl
  · rw [show knownV 0 = true from rfl, if_pos rfl, Bool.true_and, show szV 0 = 4096 from rfl]
    refine ⟨?_, ?_, rfl⟩ <;> omega
  · rw [show knownV 1 = true from rfl, if_pos rfl, Bool.true_and, show szV 1 = 2097152 from rfl]
    refine ⟨?_, ?_, rfl⟩ <;> omega
  · rw [show knownV 2 = true from rfl, if_pos rfl, Bool.true_and, show szV 2 = 1073741824 from rfl]
    refine ⟨?_, ?_, rfl⟩ <;> omega
theorem a38 (e : Int) (he : B64 e) : bits .and .u64 e 18446743798831644672 = e / 274877906944 * 274877906944 := by
  obtain ⟨x, rfl, hx⟩ := he.nat
  have h := and_nat x 18446743798831644672 hx (by omega)
  rw [show (18446743798831644672 : Int) = ((18446743798831644672 : Nat) : Int) from rfl, h]
  have e : x &&& 18446743798831644672 = x / 2 ^ 38 * 2 ^ 38 := Nat.eq_of_testBit_eq fun i => by
    rw [Nat.testBit_and, show (18446743798831644672 : Nat) = 2 ^ 64 - (274877906943 + 1) from rfl, Nat.testBit_two_pow_sub_succ (by omega), Nat.testBit_mul_two_pow, Nat.testBit_div_two_pow, show (274877906943 : Nat) = 2 ^ 38 - 1 from rfl, Nat.testBit_two_pow_sub_one]
    by_cases hi : i < 64
    · by_cases h38 : i < 38
      · simp [h38]; intro h; omega
      · simp only [hi, h38, decide_true, decide_false, Bool.not_false, Bool.and_true, show 38 ≤ i by omega, Bool.true_and]
        congr 1; omega
    · have h38 : i - 38 + 38 = i := by omega
      simp [high_off hx hi, h38]
  rw [e, show (2 : Nat) ^ 38 = 274877906944 from rfl]
  omega
theorem canon_high {va : Int} (hv : B64 va) : B64 (bits .or .u64 va 18446743798831644672) ∧ canonV (bits .or .u64 va 18446743798831644672) = true := by
  have h := and_or va 18446743798831644672 hv (by unfold B64; omega)
  unfold andV orV at h
  rw [a38 va hv] at h
  unfold B64 at hv
  have hd : bits .or .u64 va 18446743798831644672 = va % 274877906944 + 18446743798831644672 := by omega
  rw [hd]
  refine ⟨by unfold B64; omega, ?_⟩
  unfold canonV
  rw [show (va % 274877906944 + 18446743798831644672) / 274877906944 = 67108863 by omega]
  rfl
theorem canon_low {va : Int} (hv : B64 va) : B64 (va % 274877906944) ∧ canonV (va % 274877906944) = true := by
  unfold B64 at *
  refine ⟨by omega, ?_⟩
  unfold canonV
  rw [show va % 274877906944 / 274877906944 = 0 by omega]
  rfl
theorem xor_all (a : Int) (ha : B64 a) : bits .xor .u64 IntKind.u64.max a = 18446744073709551615 - a := by
  obtain ⟨x, rfl, hx⟩ := ha.nat
  have h := xorV_nat 18446744073709551615 x (by omega) hx
  unfold xorV at h
  rw [show IntKind.u64.max = ((18446744073709551615 : Nat) : Int) from rfl, h]
  have e : 18446744073709551615 ^^^ x = 18446744073709551615 - x := Nat.eq_of_testBit_eq fun i => by
    have k := Nat.testBit_two_pow_sub_succ (n := 64) (x := x) hx i
    rw [Nat.testBit_xor, show (18446744073709551615 : Nat) - x = 2 ^ 64 - (x + 1) by omega, k, show (18446744073709551615 : Nat) = 2 ^ 64 - 1 from rfl, Nat.testBit_two_pow_sub_one]
    by_cases hi : i < 64
    · simp [hi]
    · simp [hi, high_off hx hi]
  rw [e]
  omega
theorem canon_not {va : Int} (hv : B64 va) : canonV va = (decide (va / 274877906944 = 0) || decide ((18446744073709551615 - va) / 274877906944 = 0)) := by
  unfold B64 at hv
  unfold canonV
  congr 1
  refine decide_eq_decide.2 ?_
  omega
end Go.Proofs.Ytecpghenjannhaa.P
