/-
  Proved: for any number of 64 bits, any number of bits and any shift, the law WordSigns returns true.
  Conditions: none beyond the statement's own.
-/
import Derived.Test.YtbcfncffgjaapaaRows
import Derived.Test.YtbcfncffgjaapaaOpen
import Derived.Lib.Hide
import Derived.Test.YtbcfncffgjaapaaWordLaw
import Derived.Test.YtbcfncffgjaapaaWordG
namespace Go.Proofs.Ytbcfncffgjaapaa.wordSigns
open Go Go.ChangeShapes Go.WideShapes Go.ChangeAt Go.RowKit W
set_option linter.unusedVariables false

set_option maxHeartbeats 1000000 in
theorem walk (a0 : Int) (w0 : (Lit.int .u64 a0).wf = true) (a1 : Int) (w1 : (Lit.int .u8 a1).wf = true) (a2 : Int) (w2 : (Lit.int .u8 a2).wf = true) (w : World) :
    Calls Try.prog 6 #[.int .u64 a0, .int .u8 a1, .int .u8 a2] w fun e w' => e = .returned (.bool true) ∧ Below w.heap.size w w' := by
  have hx := bounds_u64 w0
  have h1 := bounds_u8 w1
  have h2 := bounds_u8 w2
  clear w0 w1 w2
  have e1 := and63b a1 h1
  have E2 := Lib.hid (and63b a2 h2)
  obtain ⟨n, hn⟩ : ∃ n : Nat, 1 + a1 % 64 = n := ⟨(1 + a1 % 64).toNat, by omega⟩
  have n1 : 1 ≤ n := by omega
  have n2 : n ≤ 64 := by omega
  have hy := sextV_bd a0 n hx
  have T := Lib.hid (sextV_twice a0 n n1 n2 hx)
  have BL := Lib.hid (fun i hi => sextV_bit_low a0 n i n1 n2 hi hx)
  have BH := Lib.hid (fun i hi => sextV_bit_high a0 n i n1 n2 hi)
  have SG := Lib.hid (shiftV_sext a0 n n1 n2 hx)
  have HA := Lib.hid (and_all a0 hx)
  go_enter Try.func6, Try.ntmps6
  go_wp2_with fail
  refine (shown01_c _).mono ?_
  rintro e w' ⟨rfl, rfl⟩
  go_wp2_with fail
  clear e1 hn
  refine (Sext_c _ _ hx (by omega) _).mono ?_
  rintro e w' ⟨rfl, rfl⟩
  go_wp2_with fail
  refine (Sext_c _ _ hy (by omega) _).mono ?_
  rintro e w' ⟨rfl, rfl⟩
  rw [T.out]
  clear T
  generalize sextV a0 n = y at *
  go_wp2_with fail
  go_loop [10] (fun i => ∃ k : Nat, k ≤ 64 ∧ i = .int .i64 k) (fun i => 64 - (intOf i).toNat)
  case atStart => exact ⟨0, by omega, rfl⟩
  case round =>
    obtain ⟨k, hk, rfl⟩ := hrel
    by_cases hk3 : k < 64
    · have ey : bits .and .u64 (y / 2 ^ k) 1 = y / 2 ^ k % 2 := and_one _ (div_bd _ _ hy (pow_pos' _))
      by_cases hkn : k < n
      · have ex : bits .and .u64 (a0 / 2 ^ k) 1 = y / 2 ^ k % 2 := by rw [and_one _ (div_bd _ _ hx (pow_pos' _)), BL.out k hkn]
        generalize y / 2 ^ k % 2 = Y at *
        go_wp2_with fail
        go_round
        case rel => exact ⟨k + 1, by omega, by go_num⟩
        case measure => simp [intOf]; omega
      · have es : bits .and .u64 (y / 2 ^ (n - 1)) 1 = y / 2 ^ k % 2 := by rw [and_one _ (div_bd _ _ hy (pow_pos' _)), BH.out k (by omega) (by omega)]
        generalize y / 2 ^ k % 2 = Y at *
        go_wp2_with fail
        go_round
        case rel => exact ⟨k + 1, by omega, by go_num⟩
        case measure => simp [intOf]; omega
    · have e2 := E2.out
      have hA : 0 ≤ a2 % 64 ∧ a2 % 64 ≤ 63 := by omega
      clear h2
      generalize a2 % 64 = A at *
      go_wp2_with fail
      clear e2 E2 BL BH
      have S1 := Lib.hid (shiftV_shr a0 A hA)
      have S2 := Lib.hid (shiftV_mul (a0 / 2 ^ A.toNat) A hA)
      have S3 := Lib.hid (shiftV_mul a0 A hA)
      have S4 := Lib.hid (shiftV_shr (IntKind.u64.wrap (a0 * 2 ^ A.toNat)) A hA)
      have q1 := div_bd a0 (2 ^ A.toNat) hx (pow_pos' _)
      have q2 := u64_bd (a0 * 2 ^ A.toNat)
      refine (Shift_c _ _ _ hx (by omega) (by omega) _).mono ?_
      rintro e w' ⟨rfl, rfl⟩
      rw [S1.out]
      go_wp2_with fail
      refine (Shift_c _ _ _ q1 (by omega) (by omega) _).mono ?_
      rintro e w' ⟨rfl, rfl⟩
      rw [S2.out]
      go_wp2_with fail
      refine (Shift_c _ _ _ hx (by omega) (by omega) _).mono ?_
      rintro e w' ⟨rfl, rfl⟩
      rw [S3.out]
      go_wp2_with fail
      refine (Shift_c _ _ _ q2 (by omega) (by omega) _).mono ?_
      rintro e w' ⟨rfl, rfl⟩
      rw [S4.out]
      go_wp2_with fail
      refine (Shift_c _ _ _ hx (by omega) (by omega) _).mono ?_
      rintro e w' ⟨rfl, rfl⟩
      go_wp2_with fail
      refine (Shift_c _ _ _ (shiftV_bd _ _ _ hx) (by omega) (by omega) _).mono ?_
      rintro e w' ⟨rfl, rfl⟩
      rw [SG.out]
      have hA' := HA.out
      clear HA SG S1 S2 S3 S4
      go_wp2_with fail
      go_ret
      exact ⟨rfl, Below.refl _ _⟩

theorem own : ownKnob Try.prog.godebug = none := by kernel_rfl
theorem laidOut : laidOutB Try.prog = true := by kernel_rfl

set_option maxRecDepth 100000 in
theorem lifted (os : Os) (started : os.Started) (H : Type) (enc : TypeId × Value → H) :
    ReturnsInHanded {} Try.checked os 6 .any (Rows.wordSignsSpec.pre6 enc Try.prog Try.f6 Rows.wordSignsRow.domain false) (Rows.wordSignsSpec.post enc Try.prog Try.f6 false true false false) := by
  refine returnsInHanded_of_change (C := Try.checked) own started (by kernel_rfl) Try.func6
    (ChangeSpec.witness6 (enc := enc) (C := Try.checked) false ⟨#[], #[.int .u64 0, .int .u8 0, .int .u8 0], []⟩ 8 (by kernel_rfl) (by kernel_rfl) (by kernel_rfl) (by kernel_rfl)) ?_
  intro W base args ds gs before hval0 hW hcnd _
  have hval : ∀ (j : Nat) t v, Try.f6.params[j]? = some t → args[j]? = some v → Value.okWide Try.prog W .any base t v := hval0
  have hW' := hW
  obtain ⟨p, q, hA0, hV, rfl, hfz, hnd⟩ := hW
  have hA : DataW.TrodAll enc Try.prog W 0 (fun _ => true) true Try.f6.params.toList args.toList ds p := hA0
  rw [Try.params6] at hA hval
  obtain ⟨v0, vs0, d0, ds0, p0, q0, hargs, rfl, rfl, h0, r0⟩ := trodAll_cons hA
  obtain ⟨v1, vs1, d1, ds1, p1, q1, rfl, rfl, rfl, h1, r1⟩ := trodAll_cons r0
  obtain ⟨v2, vs2, d2, ds2, p2, q2, rfl, rfl, rfl, h2, r2⟩ := trodAll_cons r1
  obtain ⟨rfl, rfl, rfl⟩ := trodAll_nil r2
  obtain rfl : args = #[v0, v1, v2] := by cases args; simp_all
  obtain ⟨rfl, rfl⟩ := trodVars_none hV
  clear hA0 hval0 hA
  have k0 := h0
  have lt0 : ∀ x ∈ p0, x.block < W.heap.size := by obtain ⟨m, hm⟩ := k0; exact DataW.trod_lt m _ _ _ hm
  obtain ⟨a0, rfl, rfl, rfl, w0⟩ := open_int Try.underlying22 (hval 0 22 v0 rfl rfl) h0
  have k1 := h1
  have lt1 : ∀ x ∈ p1, x.block < W.heap.size := by obtain ⟨m, hm⟩ := k1; exact DataW.trod_lt m _ _ _ hm
  obtain ⟨a1, rfl, rfl, rfl, w1⟩ := open_int Try.underlying5 (hval 1 5 v1 rfl rfl) h1
  have k2 := h2
  have lt2 : ∀ x ∈ p2, x.block < W.heap.size := by obtain ⟨m, hm⟩ := k2; exact DataW.trod_lt m _ _ _ hm
  obtain ⟨a2, rfl, rfl, rfl, w2⟩ := open_int Try.underlying5 (hval 2 5 v2 rfl rfl) h2
  refine (walk a0 w0 a1 w1 a2 w2 W).mono fun e W' ⟨he, bel⟩ => ?_
  subst he
  exact ⟨_, rfl, _, _, _, [], _, [], hW', trodAll_mk1 (shut_bool Try.underlying4 _), (trodAll_cons_mk (Below.trod laidOut (by kernel_rfl) (of_decide_eq_true (by kernel_rfl)) k0 bel lt0) (trodAll_cons_mk (Below.trod laidOut (by kernel_rfl) (of_decide_eq_true (by kernel_rfl)) k1 bel lt1) (trodAll_cons_mk (Below.trod laidOut (by kernel_rfl) (of_decide_eq_true (by kernel_rfl)) k2 bel lt2) trodAll_mk0))), rfl, bel.frame _, fun h => by cases h⟩

theorem over : Rows.wordSignsRow.holds Try.pinned (OpenSpec.ofChange Rows.wordSignsSpec) :=
  OpenClaim.holds_of_wide 6 Try.f6 rfl rfl rfl rfl rfl rfl rfl ⟨rfl, rfl, rfl, rfl, rfl⟩ rfl rfl rfl rfl rfl (by kernel_rfl) Try.func6 (by kernel_rfl)
    (of_decide_eq_true (by kernel_rfl)) (by unfold Func.isWrapper; first | (rw [if_pos (by decide +kernel)]; kernel_rfl) | (rw [if_neg (by decide +kernel)]; exact ⟨rfl, rfl⟩))
    (fun os started H enc _ => lifted os started H enc)

/-- The statement. -/
theorem proved : Rows.WordSignsSaid := over
#print axioms proved

end Go.Proofs.Ytbcfncffgjaapaa.wordSigns
