/-
  Proved: for any two numbers, the law AluDivides returns true: what is divided goes with what is multiplied, and products' high halves go with each other.
  Conditions: none beyond the statement's own (its listed variable is tied to the program's text).
-/
import Derived.Test.YtmabfocpcbaniaaDoorRows
import Derived.Test.YtmabfocpcbaniaaDoorCards
import Derived.Test.YtmabfocpcbaniaaDoorTie
import Derived.Test.YtmabfocpcbaniaaDoorOpen
import Derived.Lib.Hide
import Derived.SevenTiedAt
import Derived.Test.YtmabfocpcbaniaaDoorAluDoor
import Derived.Test.YtmabfocpcbaniaaDoorAluLaw
namespace Go.Proofs.YtmabfocpcbaniaaDoor.aluDivides
open Go Go.ChangeShapes Go.WideShapes Go.ChangeAt Go.RowKit W M D A
set_option linter.unusedVariables false

set_option maxRecDepth 100000 in
set_option maxHeartbeats 4000000 in
theorem walk (w : World) (hL : Tbl w) (a0 : Int) (w0 : (Lit.int .u64 a0).wf = true) (a1 : Int) (w1 : (Lit.int .u64 a1).wf = true) :
    Calls Tryd.prog 7 #[.int .u64 a0, .int .u64 a1] w fun e w' => e = .returned (.bool true) ∧ Below w.heap.size w w' := by
  have ha : B64 a0 := bounds_u64 w0
  have hb : B64 a1 := bounds_u64 w1
  clear w0 w1
  have HA := Lib.hid ha
  have HB := Lib.hid hb
  have HT0 := Lib.hid hL
  have Z0 := Lib.hid (gr_refl w none)
  clear hL
  have HO := Lib.hid (show B64 0 by unfold B64; omega)
  obtain ⟨q, hq⟩ : ∃ q, doV 54 a0 a1 = q := ⟨_, rfl⟩
  have bq : B64 q := by rw [← hq, do_54]; exact divV_bd a0 a1 true ha hb.1
  have E54 := Lib.hid hq
  obtain ⟨r, hr⟩ : ∃ r, doV 56 a0 a1 = r := ⟨_, rfl⟩
  have br : B64 r := by rw [← hr, do_56]; exact remV_bd a0 a1 true ha hb.1
  have E56 := Lib.hid hr
  obtain ⟨u, hu⟩ : ∃ u, doV 55 a0 a1 = u := ⟨_, rfl⟩
  have bu : B64 u := by rw [← hu, do_55]; exact divV_bd a0 a1 false ha hb.1
  have E55 := Lib.hid hu
  obtain ⟨v, hv⟩ : ∃ v, doV 57 a0 a1 = v := ⟨_, rfl⟩
  have bv : B64 v := by rw [← hv, do_57]; exact remV_bd a0 a1 false ha hb.1
  have E57 := Lib.hid hv
  obtain ⟨c, hc⟩ : ∃ c, doV 59 a0 a1 = c := ⟨_, rfl⟩
  have bc : B64 c := by rw [← hc, do_59]; exact div32V_bd a0 a1 true
  have E59 := Lib.hid hc
  obtain ⟨x, hx⟩ : ∃ x, doV 61 a0 a1 = x := ⟨_, rfl⟩
  have bx : B64 x := by rw [← hx, do_61]; exact rem32V_bd a0 a1 true
  have E61 := Lib.hid hx
  obtain ⟨s, hs⟩ : ∃ s, doV 51 a0 a1 = s := ⟨_, rfl⟩
  have bs : B64 s := by rw [← hs, do_51]; exact highV_bd _ _ _ _
  have E51 := Lib.hid hs
  obtain ⟨h, hh⟩ : ∃ h, doV 52 a0 a1 = h := ⟨_, rfl⟩
  have bh : B64 h := by rw [← hh, do_52]; exact highV_bd _ _ _ _
  have E52 := Lib.hid hh
  obtain ⟨p, hp⟩ : ∃ p, doV 53 a0 a1 = p := ⟨_, rfl⟩
  have bp : B64 p := by rw [← hp, do_53]; exact highV_bd _ _ _ _
  have E53 := Lib.hid hp
  obtain ⟨m, hm⟩ : ∃ m, doV 58 c a1 = m := ⟨_, rfl⟩
  have bm : B64 m := by rw [← hm]; exact lowS_bd (mul_bd _ _)
  have E58 := Lib.hid hm
  obtain ⟨l, hl⟩ : ∃ l, doV 41 a0 0 = l := ⟨_, rfl⟩
  have bl : B64 l := by rw [← hl]; exact lowS_bd (sum_bd _ _)
  have E41 := Lib.hid hl
  have E45 := Lib.hid (show doV 45 m x = l by rw [← hm, ← hc, ← hx, ← hl]; exact back32 a0 a1 ha hb)
  have k1 : IntKind.u64.wrap (IntKind.u64.wrap (q * a1) + r) = a0 := by rw [← hq, ← hr]; exact divS_back a0 a1 ha hb
  have k2 : IntKind.u64.wrap (IntKind.u64.wrap (u * a1) + v) = a0 := by rw [← hu, ← hv]; exact divU_back a0 a1 ha hb
  have f1 := high_half a0 a1 ha hb
  have f2 := high_signed a0 a1 ha hb
  rw [hh, hp] at f1
  rw [hs, hh] at f2
  have hcb := and_all a1 hb
  have HC := Lib.hid bc
  have HM := Lib.hid bm
  have HX := Lib.hid bx
  clear hq hr hu hv hc hx hs hh hp hm hl
  have t1 : a0 / 9223372036854775808 = 0 ∨ a0 / 9223372036854775808 = 1 := by unfold B64 at *; omega
  have t2 : a1 / 9223372036854775808 = 0 ∨ a1 / 9223372036854775808 = 1 := by unfold B64 at *; omega
  unfold B64 at *
  rcases t1 with t1 | t1 <;> rcases t2 with t2 | t2 <;> rw [t1] at f1 <;> rw [t2] at f2
  all_goals
    simp only [Int.reduceEq, false_implies, true_implies, ne_eq, not_false_eq_true, not_true_eq_false, and_true, true_and] at f1 f2
    first | subst f1 | skip
    go_enter Tryd.func7, Tryd.ntmps7
    go_wp2_with fail
    refine (shown07_c _ HT0.out).mono ?_
    rintro e w1 ⟨rfl, hG⟩
    have HT1 := Lib.hid (HT0.out.grown hG)
    have Z1 := Lib.hid (gr_trans Z0.out hG)
    clear hG
    go_wp2_with fail
    refine (Do_c 54 a0 a1 (by decide) HA.out HB.out _ HT1.out).mono ?_
    rintro e w2 ⟨rfl, hG⟩
    have HT2 := Lib.hid (HT1.out.grown hG)
    have Z2 := Lib.hid (gr_trans Z1.out hG)
    clear hG
    rw [E54.out]
    go_wp2_with fail
    refine (Do_c 56 a0 a1 (by decide) HA.out HB.out _ HT2.out).mono ?_
    rintro e w3 ⟨rfl, hG⟩
    have HT3 := Lib.hid (HT2.out.grown hG)
    have Z3 := Lib.hid (gr_trans Z2.out hG)
    clear hG
    rw [E56.out]
    go_wp2_with fail
    refine (Do_c 55 a0 a1 (by decide) HA.out HB.out _ HT3.out).mono ?_
    rintro e w4 ⟨rfl, hG⟩
    have HT4 := Lib.hid (HT3.out.grown hG)
    have Z4 := Lib.hid (gr_trans Z3.out hG)
    clear hG
    rw [E55.out]
    go_wp2_with fail
    refine (Do_c 57 a0 a1 (by decide) HA.out HB.out _ HT4.out).mono ?_
    rintro e w5 ⟨rfl, hG⟩
    have HT5 := Lib.hid (HT4.out.grown hG)
    have Z5 := Lib.hid (gr_trans Z4.out hG)
    clear hG
    rw [E57.out]
    go_wp2_with fail
    refine (Do_c 59 a0 a1 (by decide) HA.out HB.out _ HT5.out).mono ?_
    rintro e w6 ⟨rfl, hG⟩
    have HT6 := Lib.hid (HT5.out.grown hG)
    have Z6 := Lib.hid (gr_trans Z5.out hG)
    clear hG
    rw [E59.out]
    go_wp2_with fail
    refine (Do_c 61 a0 a1 (by decide) HA.out HB.out _ HT6.out).mono ?_
    rintro e w7 ⟨rfl, hG⟩
    have HT7 := Lib.hid (HT6.out.grown hG)
    have Z7 := Lib.hid (gr_trans Z6.out hG)
    clear hG
    rw [E61.out]
    go_wp2_with fail
    refine (Do_c 58 c a1 (by decide) HC.out HB.out _ HT7.out).mono ?_
    rintro e w8 ⟨rfl, hG⟩
    have HT8 := Lib.hid (HT7.out.grown hG)
    have Z8 := Lib.hid (gr_trans Z7.out hG)
    clear hG
    rw [E58.out]
    go_wp2_with fail
    refine (Do_c 45 m x (by decide) HM.out HX.out _ HT8.out).mono ?_
    rintro e w9 ⟨rfl, hG⟩
    have HT9 := Lib.hid (HT8.out.grown hG)
    have Z9 := Lib.hid (gr_trans Z8.out hG)
    clear hG
    rw [E45.out]
    go_wp2_with fail
    refine (Do_c 41 a0 0 (by decide) HA.out HO.out _ HT9.out).mono ?_
    rintro e w10 ⟨rfl, hG⟩
    have HT10 := Lib.hid (HT9.out.grown hG)
    have Z10 := Lib.hid (gr_trans Z9.out hG)
    clear hG
    rw [E41.out]
    go_wp2_with fail
    refine (Do_c 51 a0 a1 (by decide) HA.out HB.out _ HT10.out).mono ?_
    rintro e w11 ⟨rfl, hG⟩
    have HT11 := Lib.hid (HT10.out.grown hG)
    have Z11 := Lib.hid (gr_trans Z10.out hG)
    clear hG
    rw [E51.out]
    go_wp2_with fail
    refine (Do_c 52 a0 a1 (by decide) HA.out HB.out _ HT11.out).mono ?_
    rintro e w12 ⟨rfl, hG⟩
    have HT12 := Lib.hid (HT11.out.grown hG)
    have Z12 := Lib.hid (gr_trans Z11.out hG)
    clear hG
    rw [E52.out]
    go_wp2_with fail
    refine (Do_c 53 a0 a1 (by decide) HA.out HB.out _ HT12.out).mono ?_
    rintro e w13 ⟨rfl, hG⟩
    have HT13 := Lib.hid (HT12.out.grown hG)
    have Z13 := Lib.hid (gr_trans Z12.out hG)
    clear hG
    rw [E53.out]
    go_wp2_with fail
    refine (Do_c 52 a0 a1 (by decide) HA.out HB.out _ HT13.out).mono ?_
    rintro e w14 ⟨rfl, hG⟩
    have HT14 := Lib.hid (HT13.out.grown hG)
    have Z14 := Lib.hid (gr_trans Z13.out hG)
    clear hG
    rw [E52.out]
    go_wp2_with fail
    go_ret
    exact ⟨rfl, gr_below Z14.out⟩


theorem own : ownKnob Tryd.prog.godebug = none := by kernel_rfl
theorem laidOut : laidOutB Tryd.prog = true := by kernel_rfl

set_option maxRecDepth 100000 in
theorem lifted (os : Os) (started : os.Started) (H : Type) (enc : TypeId × Value → H) :
    ReturnsInHanded {} Tryd.checked os 7 .any (fun w args => (Rows.aluDividesSpec.pre enc Tryd.prog Tryd.f7 [] false w args ∧ laidMetH Tryd.prog laidL w) ∧ sizedMet enc Tryd.prog Tryd.f7 (OpenSpec.ofChange Rows.aluDividesSpec) false w args)
      (Rows.aluDividesSpec.post enc Tryd.prog Tryd.f7 false true false false) := by
  refine returnsInHanded_of_change_and (C := Tryd.checked) (X := fun w _ => laidMetH Tryd.prog laidL w) (fun _ _ _ hh h => h.of_heap hh) own started (by kernel_rfl) Tryd.func7
    (ChangeSpec.witness_shaped (enc := enc) (C := Tryd.checked) (os := os) (X := fun w _ => laidMetH Tryd.prog laidL w) false (World.doorLaid Tryd.prog 400 os) #[.int .u64 0, .int .u64 0] 8 rfl (World.shaped_of_RefB (by kernel_rfl) (by kernel_rfl)) (by kernel_rfl) (by kernel_rfl) (by kernel_rfl) (door_met os _)) ?_
  intro W base args ds gs before hval0 hW _ _ hL _
  have hval : ∀ (j : Nat) t v, Tryd.f7.params[j]? = some t → args[j]? = some v → Value.okWide Tryd.prog W .any base t v := hval0
  have hW' := hW
  obtain ⟨p, q, hA0, hV, rfl, hfz, hnd⟩ := hW
  have hA : DataW.TrodAll enc Tryd.prog W 0 (fun _ => true) true Tryd.f7.params.toList args.toList ds p := hA0
  rw [Tryd.params7] at hA hval
  obtain ⟨v0, vs0, d0, ds0, p0, q0, hargs, rfl, rfl, h0, r0⟩ := trodAll_cons hA
  obtain ⟨v1, vs1, d1, ds1, p1, q1, rfl, rfl, rfl, h1, r1⟩ := trodAll_cons r0
  obtain ⟨rfl, rfl, rfl⟩ := trodAll_nil r1
  obtain rfl : args = #[v0, v1] := by cases args; simp_all
  obtain ⟨rfl, rfl⟩ := trodVars_none hV
  clear hA0 hval0 hA
  have k0 := h0
  have lt0 : ∀ x ∈ p0, x.block < W.heap.size := by obtain ⟨m, hm⟩ := k0; exact DataW.trod_lt m _ _ _ hm
  obtain ⟨a0, rfl, rfl, rfl, w0⟩ := open_int Tryd.underlying22 (hval 0 22 v0 rfl rfl) h0
  have k1 := h1
  have lt1 : ∀ x ∈ p1, x.block < W.heap.size := by obtain ⟨m, hm⟩ := k1; exact DataW.trod_lt m _ _ _ hm
  obtain ⟨a1, rfl, rfl, rfl, w1⟩ := open_int Tryd.underlying22 (hval 1 22 v1 rfl rfl) h1
  refine (walk W (of_laid hL) a0 w0 a1 w1).mono fun e W' ⟨he, bel⟩ => ?_
  subst he
  exact ⟨_, rfl, _, _, _, [], _, [], hW', trodAll_mk1 (shut_bool Tryd.underlying4 _), (trodAll_cons_mk (Below.trod laidOut (by kernel_rfl) (of_decide_eq_true (by kernel_rfl)) k0 bel lt0) (trodAll_cons_mk (Below.trod laidOut (by kernel_rfl) (of_decide_eq_true (by kernel_rfl)) k1 bel lt1) trodAll_mk0)), rfl, bel.frame _, fun h => by cases h⟩

theorem over : Rows.AluDividesSaid :=
  OpenClaim.holds_of_wide 7 Tryd.f7 rfl rfl rfl rfl rfl rfl rfl ⟨rfl, rfl, rfl, rfl, rfl⟩ rfl rfl rfl rfl rfl (by kernel_rfl) Tryd.func7 (by kernel_rfl)
    (of_decide_eq_true (by kernel_rfl)) (by unfold Func.isWrapper; first | (rw [if_pos (by decide +kernel)]; kernel_rfl) | (rw [if_neg (by decide +kernel)]; exact ⟨rfl, rfl⟩))
    (fun os started H enc _ => lifted os started H enc)

/-- The statement: the card, its listed variable tied to the program's text. -/
theorem proved : Rows.AluDividesCardSaid :=
  Claim7.holds_tied_plain_at .later [] [.data] true (true, "f053542d1011ec4d679a08a86226c28570616c134fd3b4b88d7a1209d25f1ea1") false
    over (fun _ h => by cases h) (by kernel_rfl) (fun _ h => by cases h) aluDivides_row_tie rfl ⟨rfl, rfl⟩ (by kernel_rfl) rfl
    (fun f fn hf hfn => by
      obtain rfl : f = 7 := Option.some.inj ((show Tryd.prog.funcNamed "suzerain/suzerainlaw07.AluDivides" = some 7 by kernel_rfl).symm.trans hf) |>.symm
      obtain rfl : fn = Tryd.f7 := (Option.some.inj (Tryd.func7.symm.trans hfn)).symm
      exact ⟨by kernel_rfl, fun j t ht => by
        rw [Tryd.params7] at ht
        have hm : t ∈ [22, 22] := by simpa using Array.mem_of_getElem? ht
        have hall : ([22, 22].all fun u => !Tryd.prog.wantsStandIn u) = true := by kernel_rfl
        exact (show Tryd.prog.wantsStandIn t = false by simpa using List.all_eq_true.1 hall t hm)⟩)
    (by kernel_rfl)
#print axioms proved

