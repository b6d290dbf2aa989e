/-
  Proved: for any mask of the lowest 8 bits, any hart, and any number of harts, the law MaskShifts returns true: a mask from a hart on means the harts of the mask shifted so far; and none is meant by none.
  Conditions: none beyond the statement's own.
-/
import Derived.Test.YtgcjefgblodfmaaRows
import Derived.Test.YtgcjefgblodfmaaLayO
import Derived.Test.YtgcjefgblodfmaaMaskD
import Derived.Deep.Cut
namespace Go.Proofs.Ytgcjefgblodfmaa.maskShifts
open Go Go.ChangeShapes Go.WideShapes Go.ChangeAt Go.RowKit W M A Mk
set_option linter.unusedVariables false

set_option maxRecDepth 100000 in
set_option maxHeartbeats 2000000 in
theorem walk (w : World) (a0 : Int) (w0 : (Lit.int .u8 a0).wf = true) (a1 : Int) (w1 : (Lit.int .u8 a1).wf = true) (a2 : Int) (w2 : (Lit.int .i64 a2).wf = true) :
    Calls Try.prog 5 #[.int .u8 a0, .int .u8 a1, .int .i64 a2] w fun e w' => e = .returned (.bool true) ∧ Below w.heap.size w w' := by
  have h0 := bounds_u8 w0
  have h1 := bounds_u8 w1
  have h2 := bounds_i64 w2
  clear w0 w1 w2
  obtain ⟨m, rfl⟩ : ∃ m : Nat, a0 = m := ⟨a0.toNat, by omega⟩
  obtain ⟨q, rfl⟩ : ∃ q : Nat, a1 = q := ⟨a1.toNat, by omega⟩
  obtain ⟨b, hb⟩ : ∃ b : Nat, q % 71 = b := ⟨_, rfl⟩
  have hb1 : b ≤ 70 := by omega
  have e1 : (q : Int) % 71 = (b : Int) := by omega
  have e2 : bits .and .u64 (m : Int) 255 = (m : Int) := by
    rw [u64_and _ _ (by omega) (by omega) (by omega) (by omega), show (255 : Int).toNat = 255 from rfl, Nat.and_two_pow_sub_one_eq_mod _ 8]
    omega
  have C0 := Lib.hid (fun W => Harts_c m b a2 (by omega) (by omega) h2 W)
  have CN := Lib.hid (fun W => Harts_c 0 b a2 (by omega) (by omega) h2 W)
  rw [harts_other 0 a2 (by omega), pick_zero] at CN
  clear hb
  have hl1 := ans_length m b a2
  by_cases hbb : b ≤ 56
  · have hp : IntKind.u64.wrap ((m : Int) * 2 ^ b) = ((m * 2 ^ b : Nat) : Int) ∧ m * 2 ^ b < 18446744073709551616 := by
      have h56 : 2 ^ b ≤ 2 ^ 56 := Nat.pow_le_pow_right (by omega) hbb
      have hm : m * 2 ^ b ≤ 255 * 2 ^ 56 := Nat.mul_le_mul (by omega) h56
      rw [show (m : Int) * 2 ^ b = ((m * 2 ^ b : Nat) : Int) by simp, u64_eq]
      generalize m * 2 ^ b = z at *
      omega
    have C1 := Lib.hid (fun W => Harts_c (m * 2 ^ b) 0 a2 hp.2 (by decide) h2 W)
    have hs : hartsV (m * 2 ^ b) 0 a2 = hartsV m b a2 := by
      rw [harts_zero, harts_other m a2 (by omega), shift_same (by omega) hbb]
    rw [hs] at C1
    have hp1 := hp.1
    clear hp hs
    generalize hartsV m b a2 = r at *
    generalize m * 2 ^ b = z at *
    obtain ⟨r1, r2⟩ := r
    have HL := Lib.hid (And.intro (show r1.length ≤ 70 by simp only at hl1; omega) (show r1.length ≤ 70 by simp only at hl1; omega))
    clear hl1
    go_enter Try.func5, Try.ntmps5
    go_wp2_with fail
    refine (shown16_c _).mono ?_
    rintro e w1 ⟨rfl, hG⟩
    have HG := Lib.hid hG
    clear hG
    go_wp2_with fail
    refine (C0.out _).mono ?_
    rintro e w2 ⟨v1, rfl, hA, hG⟩
    obtain ⟨A, cap, rfl⟩ := hA.form
    have HG2 := Lib.hid (gr_trans HG.out hG)
    have HA := Lib.hid hA.sees
    clear hG hA HG
    go_wp2_with fail
    refine (C1.out _).mono ?_
    rintro e w3 ⟨v2, rfl, hA, hG⟩
    obtain ⟨A2, cap2, rfl⟩ := hA.form
    have HG3 := Lib.hid (gr_trans HG2.out hG)
    have HA1 := Lib.hid (HA.out.kept hG)
    have HA2 := Lib.hid hA.sees
    clear hG hA HG2 HA
    go_wp2_with fail
    refine (CN.out _).mono ?_
    rintro e w4 ⟨v3, rfl, hA, hG⟩
    obtain ⟨A3, cap3, rfl⟩ := hA.form
    have HG4 := Lib.hid (gr_trans HG3.out hG)
    have HB1 := Lib.hid (HA1.out.kept hG)
    have HB2 := Lib.hid (HA2.out.kept hG)
    clear hG hA HG3 HA1 HA2
    rw [show (ansV (some [])).1.length = 0 from rfl, show (ansV (some [])).2 = true from rfl]
    go_wp2_with fail
    refine (Same_c _ _ _ _ HL.out.1 HL.out.2 _ HB1.out HB2.out).mono ?_
    rintro e w5 ⟨rfl, hG⟩
    have HG5 := Lib.hid (gr_trans HG4.out hG)
    clear hG HG4 HB1 HB2
    rw [decide_eq_true rfl]
    cases r2
    all_goals
      go_wp2_with fail
      go_ret
      exact ⟨rfl, gr_below HG5.out⟩
  · have hp : IntKind.u64.wrap ((m : Int) * 2 ^ 56) = ((m * 2 ^ 56 : Nat) : Int) ∧ m * 2 ^ 56 < 18446744073709551616 := by
      rw [u64_eq]
      omega
    have hp1 : IntKind.u64.wrap ((m : Int) * 72057594037927936) = ((m * 2 ^ 56 : Nat) : Int) := hp.1
    have C1 := Lib.hid (fun W => Harts_c (m * 2 ^ 56) 0 a2 hp.2 (by decide) h2 W)
    have hl2 := ans_length (m * 2 ^ 56) 0 a2
    have ho : (hartsV m b a2).2 = decide (m = 0) := by
      rw [harts_other m a2 (by omega), ans_snd, far_none (by omega) (many_le a2) (by omega)]
    clear hp
    generalize hartsV m b a2 = r at *
    generalize hartsV (m * 2 ^ 56) 0 a2 = s at *
    generalize m * 2 ^ 56 = z at *
    obtain ⟨r1, r2⟩ := r
    obtain ⟨s1, s2⟩ := s
    have HL := Lib.hid (And.intro (show r1.length ≤ 70 by simp only at hl1; omega) (show s1.length ≤ 70 by simp only at hl2; omega))
    simp only at ho
    subst ho
    clear hl1 hl2
    go_enter Try.func5, Try.ntmps5
    go_wp2_with fail
    refine (shown16_c _).mono ?_
    rintro e w1 ⟨rfl, hG⟩
    have HG := Lib.hid hG
    clear hG
    go_wp2_with fail
    refine (C0.out _).mono ?_
    rintro e w2 ⟨v1, rfl, hA, hG⟩
    obtain ⟨A, cap, rfl⟩ := hA.form
    have HG2 := Lib.hid (gr_trans HG.out hG)
    have HA := Lib.hid hA.sees
    clear hG hA HG
    go_wp2_with fail
    refine (C1.out _).mono ?_
    rintro e w3 ⟨v2, rfl, hA, hG⟩
    obtain ⟨A2, cap2, rfl⟩ := hA.form
    have HG3 := Lib.hid (gr_trans HG2.out hG)
    have HA1 := Lib.hid (HA.out.kept hG)
    have HA2 := Lib.hid hA.sees
    clear hG hA HG2 HA
    go_wp2_with fail
    refine (CN.out _).mono ?_
    rintro e w4 ⟨v3, rfl, hA, hG⟩
    obtain ⟨A3, cap3, rfl⟩ := hA.form
    have HG4 := Lib.hid (gr_trans HG3.out hG)
    have HB1 := Lib.hid (HA1.out.kept hG)
    have HB2 := Lib.hid (HA2.out.kept hG)
    clear hG hA HG3 HA1 HA2
    rw [show (ansV (some [])).1.length = 0 from rfl, show (ansV (some [])).2 = true from rfl]
    go_wp2_with fail
    refine (Same_c _ _ _ _ HL.out.1 HL.out.2 _ HB1.out HB2.out).mono ?_
    rintro e w5 ⟨rfl, hG⟩
    have HG5 := Lib.hid (gr_trans HG4.out hG)
    clear hG HG4 HB1 HB2
    generalize decide (r1 = s1) = sm at *
    by_cases hm0 : m = 0
    · subst hm0
      rw [decide_eq_true rfl]
      go_wp2_with fail
      go_ret
      exact ⟨rfl, gr_below HG5.out⟩
    · rw [decide_eq_false hm0]
      have hm1 : ((m : Int) == 0) = false := by simp; omega
      go_wp2_with fail
      go_ret
      exact ⟨rfl, gr_below HG5.out⟩

theorem own : ownKnob Try.prog.godebug = none := by kernel_rfl
theorem laidOut : laidOutB Try.prog = true := by kernel_rfl

set_option maxRecDepth 100000 in
theorem lifted (os : Os) (started : os.Started) (H : Type) (enc : TypeId × Value → H) :
    ReturnsInHanded {} Try.checked os 5 .any (Rows.maskShiftsSpec.pre6 enc Try.prog Try.f5 Rows.maskShiftsRow.domain false) (Rows.maskShiftsSpec.post enc Try.prog Try.f5 false true false false) := by
  refine returnsInHanded_of_change (C := Try.checked) own started (by kernel_rfl) Try.func5
    (ChangeSpec.witness6 (enc := enc) (C := Try.checked) false ⟨#[], #[.int .u8 0, .int .u8 0, .int .i64 0], []⟩ 8 (by kernel_rfl) (by kernel_rfl) (by kernel_rfl) (by kernel_rfl)) ?_
  intro W base args ds gs before hval0 hW hcnd _
  have hval : ∀ (j : Nat) t v, Try.f5.params[j]? = some t → args[j]? = some v → Value.okWide Try.prog W .any base t v := hval0
  have hW' := hW
  obtain ⟨p, q, hA0, hV, rfl, hfz, hnd⟩ := hW
  have hA : DataW.TrodAll enc Try.prog W 0 (fun _ => true) true Try.f5.params.toList args.toList ds p := hA0
  rw [Try.params5] at hA hval
  obtain ⟨v0, vs0, d0, ds0, p0, q0, hargs, rfl, rfl, h0, r0⟩ := trodAll_cons hA
  obtain ⟨v1, vs1, d1, ds1, p1, q1, rfl, rfl, rfl, h1, r1⟩ := trodAll_cons r0
  obtain ⟨v2, vs2, d2, ds2, p2, q2, rfl, rfl, rfl, h2, r2⟩ := trodAll_cons r1
  obtain ⟨rfl, rfl, rfl⟩ := trodAll_nil r2
  obtain rfl : args = #[v0, v1, v2] := by cases args; simp_all
  obtain ⟨rfl, rfl⟩ := trodVars_none hV
  clear hA0 hval0 hA
  have k0 := h0
  have lt0 : ∀ x ∈ p0, x.block < W.heap.size := by obtain ⟨m, hm⟩ := k0; exact DataW.trod_lt m _ _ _ hm
  obtain ⟨a0, rfl, rfl, rfl, w0⟩ := open_int Try.underlying5 (hval 0 5 v0 rfl rfl) h0
  have k1 := h1
  have lt1 : ∀ x ∈ p1, x.block < W.heap.size := by obtain ⟨m, hm⟩ := k1; exact DataW.trod_lt m _ _ _ hm
  obtain ⟨a1, rfl, rfl, rfl, w1⟩ := open_int Try.underlying5 (hval 1 5 v1 rfl rfl) h1
  have k2 := h2
  have lt2 : ∀ x ∈ p2, x.block < W.heap.size := by obtain ⟨m, hm⟩ := k2; exact DataW.trod_lt m _ _ _ hm
  obtain ⟨a2, rfl, rfl, rfl, w2⟩ := open_int Try.underlying3 (hval 2 3 v2 rfl rfl) h2
  refine (walk W a0 w0 a1 w1 a2 w2).mono fun e W' ⟨he, bel⟩ => ?_
  subst he
  exact ⟨_, rfl, _, _, _, [], _, [], hW', trodAll_mk1 (shut_bool Try.underlying4 _), (trodAll_cons_mk (Below.trod laidOut (by kernel_rfl) (of_decide_eq_true (by kernel_rfl)) k0 bel lt0) (trodAll_cons_mk (Below.trod laidOut (by kernel_rfl) (of_decide_eq_true (by kernel_rfl)) k1 bel lt1) (trodAll_cons_mk (Below.trod laidOut (by kernel_rfl) (of_decide_eq_true (by kernel_rfl)) k2 bel lt2) trodAll_mk0))), rfl, bel.frame _, fun h => by cases h⟩

theorem over : Rows.maskShiftsRow.holds Try.pinned (OpenSpec.ofChange Rows.maskShiftsSpec) :=
  OpenClaim.holds_of_wide 5 Try.f5 rfl rfl rfl rfl rfl rfl rfl ⟨rfl, rfl, rfl, rfl, rfl⟩ rfl rfl rfl rfl rfl (by kernel_rfl) Try.func5 (by kernel_rfl)
    (of_decide_eq_true (by kernel_rfl)) (by unfold Func.isWrapper; first | (rw [if_pos (by decide +kernel)]; kernel_rfl) | (rw [if_neg (by decide +kernel)]; exact ⟨rfl, rfl⟩))
    (fun os started H enc _ => lifted os started H enc)

/-- The statement. -/
theorem proved : Rows.MaskShiftsSaid := over
#print axioms proved

end Go.Proofs.Ytgcjefgblodfmaa.maskShifts
