/-
  What the document's own Lay (package suzerainref03) is: a contract over the translation, by the program's plain functions.
  Conditions: the arguments are numbers of their kinds.
-/
import Derived.Test.YtpbeamnogfjagaaGreatDoorFieldR3
import Derived.Test.YtpbeamnogfjagaaGreatDoorFieldG
import Derived.Test.YtpbeamnogfjagaaGreatDoorFieldK
namespace Go.Proofs.YtpbeamnogfjagaaGreatDoor
open Go Go.RowKit F W M
set_option linter.unusedVariables false

theorem low_bit (n : Int) (k : Nat) (hk : k < 32) : bits .and .u64 (IntKind.u64.wrap n / 2 ^ k) 1 = (F.get (low n) k 1 : Nat) := by
  have hb := u64_bd n
  obtain ⟨y, hy⟩ : ∃ y : Nat, IntKind.u64.wrap n = y := ⟨(IntKind.u64.wrap n).toNat, by omega⟩
  rw [hy] at hb ⊢
  have hd : y / 2 ^ k ≤ y := Nat.div_le_self _ _
  rw [cast_pow, ← Int.natCast_ediv, show (1 : Int) = ((1 : Nat) : Int) from rfl, u64_and_nat _ _ (by omega) (by omega)]
  have e := Nat.and_two_pow_sub_one_eq_mod (y / 2 ^ k) 1
  rw [show 2 ^ 1 - 1 = 1 from rfl] at e
  rw [e]
  congr 1
  have hl : low n = y % 2 ^ 32 := by
    rw [IntKind.wrap_u64] at hy
    unfold low
    rw [show (2 : Nat) ^ 32 = 4294967296 from rfl]
    omega
  rw [hl]
  apply Nat.eq_of_testBit_eq
  intro i
  rw [get_bit, Nat.testBit_mod_two_pow, ← Nat.shiftRight_eq_div_pow, Nat.testBit_shiftRight, Nat.testBit_mod_two_pow]
  by_cases hi : i < 1
  · have : k + i < 32 := by omega
    simp [hi, this]
  · simp [hi]
theorem step_sum32 (N b k T : Nat) (hT : T < 4294967296) (h : N + b * 2 ^ k ≤ T) : ((N : Int) + (b : Int) * 2 ^ k % 4294967296) % 4294967296 = ((N + b * 2 ^ k : Nat) : Int) := by
  rw [cast_pow, ← Int.natCast_mul]; omega
theorem drewN_drewN (w : World) (a b : Nat) : (w.drewN a).drewN b = w.drewN (a + b) := by
  simp

set_option maxHeartbeats 1000000 in
theorem rLay_yes (n f : Int) (hn : -9223372036854775808 ≤ n ∧ n ≤ 9223372036854775807) (h : 1 ≤ f ∧ f ≤ 5) (w : World) :
    Calls Tryz.prog 39 #[.int .i64 n, .int .i64 f] w fun e w' => e = .returned (.tuple #[.int .u32 (layV n f : Nat), .bool (layB n f)]) ∧ w.grownBy w' none := by
  have hT := ref_word n f h
  have hTl := wordV_lt n f h
  have hb := bts_bd f h
  have hpl := plc_len f h
  have hpr := (plc_apart f h).2
  have hps : (1 : Int) ≤ ((plcL f).length : Int) := by omega
  have hB : layB n f = decide (immV (wordV n f) f = n) := by rw [layB]; simp [spn_ne f h]
  have hV : layV n f = if layB n f = true then wordV n f else 0 := rfl
  have HY : Hid (immV (wordV n f) f = n → layB n f = true ∧ layV n f = wordV n f) := Lib.hid fun hi => by
    have e : layB n f = true := by rw [hB]; exact decide_eq_true hi
    exact ⟨e, by rw [hV, if_pos e]⟩
  have HN : Hid (¬ immV (wordV n f) f = n → layB n f = false ∧ layV n f = 0) := Lib.hid fun hi => by
    have e : layB n f = false := by rw [hB]; exact decide_eq_false hi
    exact ⟨e, by rw [hV, e]; rfl⟩
  clear hV hB
  generalize layB n f = rB at *
  generalize layV n f = rV at *
  generalize wordV n f = T at *
  go_enter Tryz.func39, Tryz.ntmps39
  go_wp2_with fail
  refine (rplaces_c f h _).mono ?_
  rintro e w1 ⟨rfl, hR, hG⟩
  generalize plcL f = ps at *
  have hl32 := hpl.2
  clear hpl hb
  generalize hm : ps.length = m at *
  have HM := Lib.hid hm
  have hm1 : 1 ≤ m := by omega
  clear hm
  go_wp2_with fail
  go_loopw [7, 8] (fun y i wr => ∃ (k N d : Nat), k ≤ m ∧ i = .int .i64 k ∧ y = .int .u32 N ∧ N + sumL (low n) k (ps.drop k) = T ∧ wr = w1.drewN d) (fun _ i _ => m - (intOf i).toNat)
  case atStart => exact ⟨0, 0, 0, Nat.zero_le _, rfl, rfl, by simpa using hT, rfl⟩
  case round =>
    obtain ⟨k, N, d, hk, rfl, rfl, hN, rfl⟩ := hrel
    by_cases hlt : k < m
    · obtain ⟨p, qs, hd⟩ : ∃ p qs, ps.drop k = p :: qs := ⟨ps[k]'(by rw [HM.out]; exact hlt), ps.drop (k + 1), List.drop_eq_getElem_cons (by rw [HM.out]; exact hlt)⟩
      have ha := iv_at hd
      have c1 := hR.cell k
      rw [ha.1] at c1
      have hp := hpr p ha.2.2.1
      rw [hd, sumL] at hN
      have HD := Lib.hid ha.2.1
      have k32 : k < 32 := by omega
      have eb := low_bit n k k32
      have hbl := get_lt (low n) k 1
      by_cases h0 : p < 0
      · rw [if_pos h0, Nat.zero_add] at hN
        have HN' := Lib.hid hN
        clear hN ha hd hT eb hbl
        go_wp2_with fail
        go_roundw
        case rel => exact ⟨k + 1, N, d, by omega, by go_num, rfl, by rw [HD.out]; exact HN'.out, rfl⟩
        case measure => simp [intOf]; omega
      · rw [if_neg h0] at hN
        obtain ⟨q, rfl⟩ : ∃ q : Nat, p = q := ⟨p.toNat, by omega⟩
        rw [Int.toNat_natCast] at hN
        generalize F.get (low n) k 1 = g at *
        have HQ := Lib.hid (step_sum32 N g q T (by omega) (by omega))
        have HN' := Lib.hid hN
        have q31 : q ≤ 31 := by omega
        clear hN ha hd hT
        go_wp2_with fail
        go_quiet (fail)
        go_wp2_with fail
        go_roundw
        case rel =>
          refine ⟨k + 1, N + g * 2 ^ q, d + nq, by omega, by go_num, ?_, by rw [HD.out, Nat.add_assoc]; exact HN'.out, rfl⟩
          rw [← HQ.out]
        case measure => simp [intOf]; omega
    · obtain rfl : k = m := by omega
      rw [← HM.out, List.drop_length, sumL, Nat.add_zero] at hN
      subst hN
      clear hT
      by_cases hi : immV N f = n
      · have HI := Lib.hid hi
        have HE := Lib.hid (HY.out hi)
        clear hi
        go_wp2_with fail
        refine (rImm_c N f hTl (by omega) _).mono ?_
        rintro e w2 ⟨rfl, hG2⟩
        rw [HI.out]
        go_wp2_with fail
        go_ret2
        exact ⟨by rw [HE.out.1, HE.out.2]; rfl, gr_trans (gr_drewN hG d) hG2⟩
      · have HE := Lib.hid (HN.out hi)
        go_wp2_with fail
        refine (rImm_c N f hTl (by omega) _).mono ?_
        rintro e w2 ⟨rfl, hG2⟩
        generalize immV N f = q at *
        have hq : (q != n) = true := by simpa using hi
        go_wp2_with fail
        go_ret2
        exact ⟨by rw [HE.out.1, HE.out.2]; rfl, gr_trans (gr_drewN hG d) hG2⟩

set_option maxHeartbeats 400000 in
theorem rLay_c (n f : Int) (hn : -9223372036854775808 ≤ n ∧ n ≤ 9223372036854775807) (hf : -9223372036854775808 ≤ f ∧ f ≤ 9223372036854775807) (w : World) :
    Calls Tryz.prog 39 #[.int .i64 n, .int .i64 f] w fun e w' => e = .returned (.tuple #[.int .u32 (layV n f : Nat), .bool (layB n f)]) ∧ w.grownBy w' none := by
  by_cases h : 1 ≤ f ∧ f ≤ 5
  · exact rLay_yes n f hn h w
  · have eB : layB n f = false := by rw [layB, (no_fmt f h).2]; simp
    have eV : layV n f = 0 := by rw [layV, eB]; rfl
    rw [eB, eV]
    go_enter Tryz.func39, Tryz.ntmps39
    go_wp2_with fail
    refine (rplaces_no f (by omega) _).mono ?_
    rintro e w1 ⟨rfl, rfl⟩
    go_wp2_with fail
    go_loop [7, 8] (fun y i => y = .int .u32 0 ∧ i = .int .i64 0) (fun _ i => 0)
    case atStart => exact ⟨rfl, rfl⟩
    case round =>
      obtain ⟨rfl, rfl⟩ := hrel
      go_wp2_with fail
      go_ret2
      exact ⟨rfl, gr_refl _ _⟩
end Go.Proofs.YtpbeamnogfjagaaGreatDoor
