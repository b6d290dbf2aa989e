/-
  Proved: for any two numbers, the law AluNumbers returns true: sums and differences, bits turned twice, products and shifts go with each other.
  Conditions: none beyond the statement's own (its listed variable is tied to the program's text).
-/
import Derived.Test.YtmabfocpcbaniaaDoorRows
import Derived.Test.YtmabfocpcbaniaaDoorCards
import Derived.Test.YtmabfocpcbaniaaDoorTie
import Derived.Test.YtmabfocpcbaniaaDoorOpen
import Derived.Lib.Hide
import Derived.SevenTiedAt
import Derived.Test.YtmabfocpcbaniaaDoorAluDoor
import Derived.Test.YtmabfocpcbaniaaDoorAluLaw
namespace Go.Proofs.YtmabfocpcbaniaaDoor.aluNumbers
open Go Go.ChangeShapes Go.WideShapes Go.ChangeAt Go.RowKit W M D A
set_option linter.unusedVariables false

set_option maxRecDepth 100000 in
set_option maxHeartbeats 4000000 in
theorem walk (w : World) (hL : Tbl w) (a0 : Int) (w0 : (Lit.int .u64 a0).wf = true) (a1 : Int) (w1 : (Lit.int .u64 a1).wf = true) :
    Calls Tryd.prog 6 #[.int .u64 a0, .int .u64 a1] w fun e w' => e = .returned (.bool true) ∧ Below w.heap.size w w' := by
  have ha : B64 a0 := bounds_u64 w0
  have hb : B64 a1 := bounds_u64 w1
  clear w0 w1
  have HA := Lib.hid ha
  have HB := Lib.hid hb
  have HT0 := Lib.hid hL
  have Z0 := Lib.hid (gr_refl w none)
  clear hL
  have HM := Lib.hid (show B64 (a1 % 64) by unfold B64 at *; omega)
  obtain ⟨q, hq⟩ : ∃ q, doV 31 a0 a1 = q := ⟨_, rfl⟩
  have hqb : B64 q := by rw [← hq]; exact sum_bd _ _
  have HQ := Lib.hid hqb
  have E31 := Lib.hid hq
  have E32 := Lib.hid (show doV 32 q a1 = a0 by rw [← hq, do_31, do_32, sumV, difV, u64_eq, u64_eq]; unfold B64 at *; omega)
  obtain ⟨x, hx⟩ : ∃ x, doV 36 a0 a1 = x := ⟨_, rfl⟩
  have hxb : B64 x := by rw [← hx]; exact xor_bd ha hb
  have HX := Lib.hid hxb
  have E36 := Lib.hid hx
  have E25 := Lib.hid (show doV 25 x a1 = a0 by rw [← hx, do_36, do_25]; exact xor_xor a0 a1 ha hb)
  obtain ⟨m, hm⟩ : ∃ m, doV 40 a0 a1 = m := ⟨_, rfl⟩
  obtain ⟨n, hn⟩ : ∃ n, doV 39 a0 a1 = n := ⟨_, rfl⟩
  have hmb : B64 m := by rw [← hm]; exact and_bd ha hb
  have hnb : B64 n := by rw [← hn]; exact or_bd ha hb
  have hmn : IntKind.u64.wrap (m + n) = IntKind.u64.wrap (a0 + a1) := by rw [← hm, ← hn, do_40, do_39, and_or a0 a1 ha hb]
  have E40 := Lib.hid hm
  have E39 := Lib.hid hn
  obtain ⟨s, hs⟩ : ∃ s, doV 33 a0 a1 = s := ⟨_, rfl⟩
  have hsb : B64 s := by rw [← hs, do_33]; exact shiftV_bd a0 (a1 % 64) 0 ha
  have E33 := Lib.hid hs
  have E28 := Lib.hid (show doV 28 a0 a1 = s from hs)
  have E33' := Lib.hid (show doV 33 a0 (a1 % 64) = s by rw [← hs, do_33, do_33, sh_round])
  have E29 := Lib.hid (show doV 29 a0 a1 = a0 / 2 ^ (a1 % 64).toNat by rw [do_29, sh_right])
  have hr := div_bd a0 _ ha (pow_pos' (a1 % 64).toNat)
  obtain ⟨y, hy⟩ : ∃ y, doV 38 a0 a1 = y := ⟨_, rfl⟩
  have hyb : B64 y := by rw [← hy, do_38]; exact shiftV_bd a0 (a1 % 64) 2 ha
  have hyt : y / 9223372036854775808 = a0 / 9223372036854775808 := by rw [← hy, do_38]; exact sh_arith a0 a1 ha
  have E38 := Lib.hid hy
  have hca := and_all a0 ha
  have hcb := and_all a1 hb
  have E50 := Lib.hid (show doV 50 a0 a1 = IntKind.u64.wrap (a0 * a1) from rfl)
  have E1 := Lib.hid (do_1 a0 a1)
  clear hq hx hm hn hs hy
  unfold B64 at *
  go_enter Tryd.func6, Tryd.ntmps6
  go_wp2_with fail
  refine (shown07_c _ HT0.out).mono ?_
  rintro e w1 ⟨rfl, hG⟩
  have HT1 := Lib.hid (HT0.out.grown hG)
  have Z1 := Lib.hid (gr_trans Z0.out hG)
  clear hG
  go_wp2_with fail
  refine (Do_c 31 a0 a1 (by decide) HA.out HB.out _ HT1.out).mono ?_
  rintro e w2 ⟨rfl, hG⟩
  have HT2 := Lib.hid (HT1.out.grown hG)
  have Z2 := Lib.hid (gr_trans Z1.out hG)
  clear hG
  rw [E31.out]
  go_wp2_with fail
  refine (Do_c 36 a0 a1 (by decide) HA.out HB.out _ HT2.out).mono ?_
  rintro e w3 ⟨rfl, hG⟩
  have HT3 := Lib.hid (HT2.out.grown hG)
  have Z3 := Lib.hid (gr_trans Z2.out hG)
  clear hG
  rw [E36.out]
  go_wp2_with fail
  refine (Do_c 40 a0 a1 (by decide) HA.out HB.out _ HT3.out).mono ?_
  rintro e w4 ⟨rfl, hG⟩
  have HT4 := Lib.hid (HT3.out.grown hG)
  have Z4 := Lib.hid (gr_trans Z3.out hG)
  clear hG
  rw [E40.out]
  go_wp2_with fail
  refine (Do_c 39 a0 a1 (by decide) HA.out HB.out _ HT4.out).mono ?_
  rintro e w5 ⟨rfl, hG⟩
  have HT5 := Lib.hid (HT4.out.grown hG)
  have Z5 := Lib.hid (gr_trans Z4.out hG)
  clear hG
  rw [E39.out]
  go_wp2_with fail
  refine (Do_c 28 a0 a1 (by decide) HA.out HB.out _ HT5.out).mono ?_
  rintro e w6 ⟨rfl, hG⟩
  have HT6 := Lib.hid (HT5.out.grown hG)
  have Z6 := Lib.hid (gr_trans Z5.out hG)
  clear hG
  rw [E28.out]
  go_wp2_with fail
  refine (Do_c 33 a0 a1 (by decide) HA.out HB.out _ HT6.out).mono ?_
  rintro e w7 ⟨rfl, hG⟩
  have HT7 := Lib.hid (HT6.out.grown hG)
  have Z7 := Lib.hid (gr_trans Z6.out hG)
  clear hG
  rw [E33.out]
  go_wp2_with fail
  refine (Do_c 33 a0 a1 (by decide) HA.out HB.out _ HT7.out).mono ?_
  rintro e w8 ⟨rfl, hG⟩
  have HT8 := Lib.hid (HT7.out.grown hG)
  have Z8 := Lib.hid (gr_trans Z7.out hG)
  clear hG
  rw [E33.out]
  go_wp2_with fail
  refine (Do_c 33 a0 (a1 % 64) (by decide) HA.out HM.out _ HT8.out).mono ?_
  rintro e w9 ⟨rfl, hG⟩
  have HT9 := Lib.hid (HT8.out.grown hG)
  have Z9 := Lib.hid (gr_trans Z8.out hG)
  clear hG
  rw [E33'.out]
  go_wp2_with fail
  refine (Do_c 29 a0 a1 (by decide) HA.out HB.out _ HT9.out).mono ?_
  rintro e w10 ⟨rfl, hG⟩
  have HT10 := Lib.hid (HT9.out.grown hG)
  have Z10 := Lib.hid (gr_trans Z9.out hG)
  clear hG
  rw [E29.out]
  go_wp2_with fail
  refine (Do_c 38 a0 a1 (by decide) HA.out HB.out _ HT10.out).mono ?_
  rintro e w11 ⟨rfl, hG⟩
  have HT11 := Lib.hid (HT10.out.grown hG)
  have Z11 := Lib.hid (gr_trans Z10.out hG)
  clear hG
  rw [E38.out]
  go_wp2_with fail
  refine (Do_c 32 q a1 (by decide) HQ.out HB.out _ HT11.out).mono ?_
  rintro e w12 ⟨rfl, hG⟩
  have HT12 := Lib.hid (HT11.out.grown hG)
  have Z12 := Lib.hid (gr_trans Z11.out hG)
  clear hG
  rw [E32.out]
  go_wp2_with fail
  refine (Do_c 25 x a1 (by decide) HX.out HB.out _ HT12.out).mono ?_
  rintro e w13 ⟨rfl, hG⟩
  have HT13 := Lib.hid (HT12.out.grown hG)
  have Z13 := Lib.hid (gr_trans Z12.out hG)
  clear hG
  rw [E25.out]
  go_wp2_with fail
  refine (Do_c 50 a0 a1 (by decide) HA.out HB.out _ HT13.out).mono ?_
  rintro e w14 ⟨rfl, hG⟩
  have HT14 := Lib.hid (HT13.out.grown hG)
  have Z14 := Lib.hid (gr_trans Z13.out hG)
  clear hG
  rw [E50.out]
  go_wp2_with fail
  refine (Do_c 1 a0 a1 (by decide) HA.out HB.out _ HT14.out).mono ?_
  rintro e w15 ⟨rfl, hG⟩
  have HT15 := Lib.hid (HT14.out.grown hG)
  have Z15 := Lib.hid (gr_trans Z14.out hG)
  clear hG
  rw [E1.out]
  go_wp2_with fail
  go_ret
  exact ⟨rfl, gr_below Z15.out⟩


theorem own : ownKnob Tryd.prog.godebug = none := by kernel_rfl
theorem laidOut : laidOutB Tryd.prog = true := by kernel_rfl

set_option maxRecDepth 100000 in
theorem lifted (os : Os) (started : os.Started) (H : Type) (enc : TypeId × Value → H) :
    ReturnsInHanded {} Tryd.checked os 6 .any (fun w args => (Rows.aluNumbersSpec.pre enc Tryd.prog Tryd.f6 [] false w args ∧ laidMetH Tryd.prog laidL w) ∧ sizedMet enc Tryd.prog Tryd.f6 (OpenSpec.ofChange Rows.aluNumbersSpec) false w args)
      (Rows.aluNumbersSpec.post enc Tryd.prog Tryd.f6 false true false false) := by
  refine returnsInHanded_of_change_and (C := Tryd.checked) (X := fun w _ => laidMetH Tryd.prog laidL w) (fun _ _ _ hh h => h.of_heap hh) own started (by kernel_rfl) Tryd.func6
    (ChangeSpec.witness_shaped (enc := enc) (C := Tryd.checked) (os := os) (X := fun w _ => laidMetH Tryd.prog laidL w) false (World.doorLaid Tryd.prog 400 os) #[.int .u64 0, .int .u64 0] 8 rfl (World.shaped_of_RefB (by kernel_rfl) (by kernel_rfl)) (by kernel_rfl) (by kernel_rfl) (by kernel_rfl) (door_met os _)) ?_
  intro W base args ds gs before hval0 hW _ _ hL _
  have hval : ∀ (j : Nat) t v, Tryd.f6.params[j]? = some t → args[j]? = some v → Value.okWide Tryd.prog W .any base t v := hval0
  have hW' := hW
  obtain ⟨p, q, hA0, hV, rfl, hfz, hnd⟩ := hW
  have hA : DataW.TrodAll enc Tryd.prog W 0 (fun _ => true) true Tryd.f6.params.toList args.toList ds p := hA0
  rw [Tryd.params6] at hA hval
  obtain ⟨v0, vs0, d0, ds0, p0, q0, hargs, rfl, rfl, h0, r0⟩ := trodAll_cons hA
  obtain ⟨v1, vs1, d1, ds1, p1, q1, rfl, rfl, rfl, h1, r1⟩ := trodAll_cons r0
  obtain ⟨rfl, rfl, rfl⟩ := trodAll_nil r1
  obtain rfl : args = #[v0, v1] := by cases args; simp_all
  obtain ⟨rfl, rfl⟩ := trodVars_none hV
  clear hA0 hval0 hA
  have k0 := h0
  have lt0 : ∀ x ∈ p0, x.block < W.heap.size := by obtain ⟨m, hm⟩ := k0; exact DataW.trod_lt m _ _ _ hm
  obtain ⟨a0, rfl, rfl, rfl, w0⟩ := open_int Tryd.underlying22 (hval 0 22 v0 rfl rfl) h0
  have k1 := h1
  have lt1 : ∀ x ∈ p1, x.block < W.heap.size := by obtain ⟨m, hm⟩ := k1; exact DataW.trod_lt m _ _ _ hm
  obtain ⟨a1, rfl, rfl, rfl, w1⟩ := open_int Tryd.underlying22 (hval 1 22 v1 rfl rfl) h1
  refine (walk W (of_laid hL) a0 w0 a1 w1).mono fun e W' ⟨he, bel⟩ => ?_
  subst he
  exact ⟨_, rfl, _, _, _, [], _, [], hW', trodAll_mk1 (shut_bool Tryd.underlying4 _), (trodAll_cons_mk (Below.trod laidOut (by kernel_rfl) (of_decide_eq_true (by kernel_rfl)) k0 bel lt0) (trodAll_cons_mk (Below.trod laidOut (by kernel_rfl) (of_decide_eq_true (by kernel_rfl)) k1 bel lt1) trodAll_mk0)), rfl, bel.frame _, fun h => by cases h⟩

theorem over : Rows.AluNumbersSaid :=
  OpenClaim.holds_of_wide 6 Tryd.f6 rfl rfl rfl rfl rfl rfl rfl ⟨rfl, rfl, rfl, rfl, rfl⟩ rfl rfl rfl rfl rfl (by kernel_rfl) Tryd.func6 (by kernel_rfl)
    (of_decide_eq_true (by kernel_rfl)) (by unfold Func.isWrapper; first | (rw [if_pos (by decide +kernel)]; kernel_rfl) | (rw [if_neg (by decide +kernel)]; exact ⟨rfl, rfl⟩))
    (fun os started H enc _ => lifted os started H enc)

/-- The statement: the card, its listed variable tied to the program's text. -/
theorem proved : Rows.AluNumbersCardSaid :=
  Claim7.holds_tied_plain_at .later [] [.data] true (true, "f053542d1011ec4d679a08a86226c28570616c134fd3b4b88d7a1209d25f1ea1") false
    over (fun _ h => by cases h) (by kernel_rfl) (fun _ h => by cases h) aluNumbers_row_tie rfl ⟨rfl, rfl⟩ (by kernel_rfl) rfl
    (fun f fn hf hfn => by
      obtain rfl : f = 6 := Option.some.inj ((show Tryd.prog.funcNamed "suzerain/suzerainlaw07.AluNumbers" = some 6 by kernel_rfl).symm.trans hf) |>.symm
      obtain rfl : fn = Tryd.f6 := (Option.some.inj (Tryd.func6.symm.trans hfn)).symm
      exact ⟨by kernel_rfl, fun j t ht => by
        rw [Tryd.params6] at ht
        have hm : t ∈ [22, 22] := by simpa using Array.mem_of_getElem? ht
        have hall : ([22, 22].all fun u => !Tryd.prog.wantsStandIn u) = true := by kernel_rfl
        exact (show Tryd.prog.wantsStandIn t = false by simpa using List.all_eq_true.1 hall t hm)⟩)
    (by kernel_rfl)
#print axioms proved

