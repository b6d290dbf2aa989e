/-
  What the document's own Imm and Lay (package suzerainref03) are: contracts over the translation, each by the program's plain functions.
  Conditions: the arguments are numbers of their kinds.
-/
import Derived.Test.YtpbeamnogfjagaaGreatDoorFieldR2
namespace Go.Proofs.YtpbeamnogfjagaaGreatDoor
open Go Go.RowKit F W M
set_option linter.unusedVariables false

theorem step_sum (N b k T : Nat) (hT : T < 18446744073709551616) (h : N + b * 2 ^ k ≤ T) : ((N : Int) + (b : Int) * 2 ^ k % 18446744073709551616) % 18446744073709551616 = ((N + b * 2 ^ k : Nat) : Int) := by
  rw [cast_pow, ← Int.natCast_mul]; omega

set_option maxHeartbeats 400000 in
theorem rImm_yes (x : Nat) (f : Int) (hx : x < 4294967296) (h : 1 ≤ f ∧ f ≤ 5) (w : World) :
    Calls Tryz.prog 30 #[.int .u32 x, .int .i64 f] w fun e w' => e = .returned (.int .i64 (immV x f)) ∧ w.grownBy w' none := by
  have hT := ref_num x f h hx
  have hTl := num_lt x f
  have hb := bts_bd f h
  have hpl := plc_len f h
  have hpr := (plc_apart f h).2
  have hpw : (2 : Nat) ^ bts f ≤ 2 ^ 32 := Nat.pow_le_pow_right (by omega) hb.2.1
  rw [show (2 : Nat) ^ 32 = 4294967296 from rfl] at hpw
  have HS := Lib.hid (sext_sgn (num x f) (bts f) (by omega) (by omega) hTl)
  have HE := Lib.hid (immV_eq x f)
  go_enter Tryz.func30, Tryz.ntmps30
  go_wp2_with fail
  refine (rplaces_c f h _).mono ?_
  rintro e w1 ⟨rfl, hR, hG⟩
  have hT2 : num x f < 4294967296 := by omega
  generalize num x f = T at *
  generalize plcL f = ps at *
  have HL := Lib.hid hpl.1
  have hl32 := hpl.2
  clear hpl hb hTl hpw
  go_wp2_with fail
  go_loop [6, 7] (fun n i => ∃ (k N : Nat), k ≤ ps.length ∧ i = .int .i64 k ∧ n = .int .u64 N ∧ N + sumI x k (ps.drop k) = T) (fun _ i => ps.length - (intOf i).toNat)
  case atStart => exact ⟨0, 0, Nat.zero_le _, rfl, rfl, by simpa using hT⟩
  case round =>
    obtain ⟨k, N, hk, rfl, rfl, hN⟩ := hrel
    by_cases hlt : k < ps.length
    · obtain ⟨p, qs, hd⟩ : ∃ p qs, ps.drop k = p :: qs := ⟨ps[k], ps.drop (k + 1), List.drop_eq_getElem_cons hlt⟩
      have ha := iv_at hd
      have c1 := hR.cell k
      rw [ha.1] at c1
      have hp := hpr p ha.2.2.1
      rw [hd, sumI] at hN
      have HD := Lib.hid ha.2.1
      have hbl := bitV_lt x p
      have HQ := Lib.hid (step_sum N (bitV x p) k T (by omega) (by omega))
      have HN := Lib.hid hN
      have k32 : k ≤ 32 := by omega
      clear hN ha hd hT
      go_wp2_with fail
      refine (rbit_c x p hx (by omega) _).mono ?_
      rintro e w' ⟨rfl, rfl⟩
      go_wp2_with fail
      go_round
      case rel =>
        refine ⟨k + 1, N + bitV x p * 2 ^ k, by omega, by go_num, ?_, by rw [HD.out, Nat.add_assoc]; exact HN.out⟩
        rw [← HQ.out]
        simp only [IntKind.wrap_u64]
      case measure => simp [intOf]; omega
    · obtain rfl : k = ps.length := by omega
      rw [List.drop_length, sumI, Nat.add_zero] at hN
      subst hN
      clear hT
      go_wp2_with fail
      refine (rSext_c _ _ (by omega) (by omega) _).mono ?_
      rintro e w' ⟨rfl, rfl⟩
      rw [HL.out]
      go_wp2_with fail
      go_ret
      exact ⟨ret_int (HS.out.trans HE.out.symm), hG⟩

set_option maxHeartbeats 400000 in
theorem rImm_c (x : Nat) (f : Int) (hx : x < 4294967296) (hf : -9223372036854775808 ≤ f ∧ f ≤ 9223372036854775807) (w : World) :
    Calls Tryz.prog 30 #[.int .u32 x, .int .i64 f] w fun e w' => e = .returned (.int .i64 (immV x f)) ∧ w.grownBy w' none := by
  by_cases h : 1 ≤ f ∧ f ≤ 5
  · exact rImm_yes x f hx h w
  · have e0 : immV x f = 0 := by rw [immV, (no_fmt f h).1, (no_fmt f h).2]; rfl
    rw [e0]
    go_enter Tryz.func30, Tryz.ntmps30
    go_wp2_with fail
    refine (rplaces_no f (by omega) _).mono ?_
    rintro e w1 ⟨rfl, rfl⟩
    go_wp2_with fail
    go_loop [6, 7] (fun n i => n = .int .u64 0 ∧ i = .int .i64 0) (fun _ i => 0)
    case atStart => exact ⟨rfl, rfl⟩
    case round =>
      obtain ⟨rfl, rfl⟩ := hrel
      go_wp2_with fail
      refine (rSext_c 0 0 (by omega) (by omega) _).mono ?_
      rintro e w' ⟨rfl, rfl⟩
      rw [show sextV 0 0 = 0 from by decide +kernel]
      go_wp2_with fail
      go_ret
      exact ⟨rfl, gr_refl _ _⟩
end Go.Proofs.YtpbeamnogfjagaaGreatDoor
