/-
  Proved: for any two numbers, the law AluBranches returns true: a branch is taken just if its opposite is not, the same are taken by the same, and what is less is so as a number that is set.
  Conditions: none beyond the statement's own (its listed variable is tied to the program's text).
-/
import Derived.Test.YtmabfocpcbaniaaDoorRows
import Derived.Test.YtmabfocpcbaniaaDoorCards
import Derived.Test.YtmabfocpcbaniaaDoorTie
import Derived.Test.YtmabfocpcbaniaaDoorOpen
import Derived.Lib.Hide
import Derived.SevenTiedAt
import Derived.Test.YtmabfocpcbaniaaDoorAluDoor
import Derived.Test.YtmabfocpcbaniaaDoorAluLaw
namespace Go.Proofs.YtmabfocpcbaniaaDoor.aluBranches
open Go Go.ChangeShapes Go.WideShapes Go.ChangeAt Go.RowKit W M D A
set_option linter.unusedVariables false

set_option maxRecDepth 100000 in
set_option maxHeartbeats 4000000 in
theorem walk (w : World) (hL : Tbl w) (a0 : Int) (w0 : (Lit.int .u64 a0).wf = true) (a1 : Int) (w1 : (Lit.int .u64 a1).wf = true) :
    Calls Tryd.prog 5 #[.int .u64 a0, .int .u64 a1] w fun e w' => e = .returned (.bool true) ∧ Below w.heap.size w w' := by
  have ha : B64 a0 := bounds_u64 w0
  have hb : B64 a1 := bounds_u64 w1
  clear w0 w1
  have HA := Lib.hid ha
  have HB := Lib.hid hb
  have HT0 := Lib.hid hL
  have Z0 := Lib.hid (gr_refl w none)
  clear hL
  have HX := Lib.hid (show B64 (bits .xor .u64 a0 9223372036854775808) from xor_bd ha (by unfold B64; omega))
  have HY := Lib.hid (show B64 (bits .xor .u64 a1 9223372036854775808) from xor_bd hb (by unfold B64; omega))
  obtain ⟨E, hE⟩ : ∃ E, eqU a0 a1 = E := ⟨_, rfl⟩
  obtain ⟨U, hU⟩ : ∃ U, ltU a0 a1 = U := ⟨_, rfl⟩
  obtain ⟨L, hl⟩ : ∃ L, ltS a0 a1 = L := ⟨_, rfl⟩
  obtain ⟨K, hK⟩ : ∃ K, ltS a1 a0 = K := ⟨_, rfl⟩
  have hEE : (a0 == a1) = E := by rw [← hE, eqU]; rfl
  have hUU : decide (a0 < a1) = U := by rw [← hU, ltU]
  have e5 := Lib.hid (show takenV 5 a0 a1 = E from hE)
  have e6 := Lib.hid (show takenV 6 a0 a1 = !E by rw [taken_6, notT, hE])
  have e7 := Lib.hid (show takenV 7 a0 a1 = L from hl)
  have e8 := Lib.hid (show takenV 8 a0 a1 = !L by rw [taken_8, notT, hl])
  have e9 := Lib.hid (show takenV 9 a0 a1 = U from hU)
  have e10 := Lib.hid (show takenV 10 a0 a1 = !U by rw [taken_10, notT, hU])
  have e34 := Lib.hid (show doV 34 a0 a1 = if L = true then 1 else 0 by rw [do_34, flagV, hl])
  have e24 := Lib.hid (show doV 24 a0 a1 = if U = true then 1 else 0 by rw [do_24, flagV, hU])
  have ek := Lib.hid (show takenV 7 a1 a0 = K from hK)
  have ex := Lib.hid (show takenV 9 (bits .xor .u64 a0 9223372036854775808) (bits .xor .u64 a1 9223372036854775808) = L by rw [taken_9, less_turned a0 a1 ha hb, hl])
  have hcase : (E = true ∧ L = false ∧ K = false) ∨ (E = false ∧ L = true ∧ K = false) ∨ (E = false ∧ L = false ∧ K = true) := by
    subst hE hl hK
    unfold eqU ltS B64 at *
    simp only [decide_eq_true_eq, decide_eq_false_iff_not]
    rw [w64_def, w64_def]
    omega
  unfold B64 at ha hb
  clear hE hU hl hK
  rcases hcase with ⟨rfl, rfl, rfl⟩ | ⟨rfl, rfl, rfl⟩ | ⟨rfl, rfl, rfl⟩
  all_goals
    cases U
  all_goals
    simp only [Bool.not_true, Bool.not_false, if_true, Bool.false_eq_true, if_false] at e6 e8 e10 e34 e24
    go_enter Tryd.func5, Tryd.ntmps5
    go_wp2_with fail
    refine (shown07_c _ HT0.out).mono ?_
    rintro e w1 ⟨rfl, hG⟩
    have HT1 := Lib.hid (HT0.out.grown hG)
    have Z1 := Lib.hid (gr_trans Z0.out hG)
    clear hG
    go_wp2_with fail
    refine (Taken_c 5 a0 a1 (by decide) HA.out HB.out _).mono ?_
    rintro e w2 ⟨rfl, hG⟩
    have HT2 := Lib.hid (HT1.out.grown hG)
    have Z2 := Lib.hid (gr_trans Z1.out hG)
    clear hG
    rw [e5.out]
    go_wp2_with fail
    refine (Taken_c 7 a0 a1 (by decide) HA.out HB.out _).mono ?_
    rintro e w3 ⟨rfl, hG⟩
    have HT3 := Lib.hid (HT2.out.grown hG)
    have Z3 := Lib.hid (gr_trans Z2.out hG)
    clear hG
    rw [e7.out]
    go_wp2_with fail
    refine (Taken_c 9 a0 a1 (by decide) HA.out HB.out _).mono ?_
    rintro e w4 ⟨rfl, hG⟩
    have HT4 := Lib.hid (HT3.out.grown hG)
    have Z4 := Lib.hid (gr_trans Z3.out hG)
    clear hG
    rw [e9.out]
    go_wp2_with fail
    refine (Taken_c 6 a0 a1 (by decide) HA.out HB.out _).mono ?_
    rintro e w5 ⟨rfl, hG⟩
    have HT5 := Lib.hid (HT4.out.grown hG)
    have Z5 := Lib.hid (gr_trans Z4.out hG)
    clear hG
    rw [e6.out]
    go_wp2_with fail
    refine (Taken_c 8 a0 a1 (by decide) HA.out HB.out _).mono ?_
    rintro e w6 ⟨rfl, hG⟩
    have HT6 := Lib.hid (HT5.out.grown hG)
    have Z6 := Lib.hid (gr_trans Z5.out hG)
    clear hG
    rw [e8.out]
    go_wp2_with fail
    refine (Taken_c 10 a0 a1 (by decide) HA.out HB.out _).mono ?_
    rintro e w7 ⟨rfl, hG⟩
    have HT7 := Lib.hid (HT6.out.grown hG)
    have Z7 := Lib.hid (gr_trans Z6.out hG)
    clear hG
    rw [e10.out]
    go_wp2_with fail
    refine (Do_c 34 a0 a1 (by decide) HA.out HB.out _ HT7.out).mono ?_
    rintro e w8 ⟨rfl, hG⟩
    have HT8 := Lib.hid (HT7.out.grown hG)
    have Z8 := Lib.hid (gr_trans Z7.out hG)
    clear hG
    rw [e34.out]
    go_wp2_with fail
    refine (Do_c 24 a0 a1 (by decide) HA.out HB.out _ HT8.out).mono ?_
    rintro e w9 ⟨rfl, hG⟩
    have HT9 := Lib.hid (HT8.out.grown hG)
    have Z9 := Lib.hid (gr_trans Z8.out hG)
    clear hG
    rw [e24.out]
    go_wp2_with fail
    refine (Taken_c 7 a1 a0 (by decide) HB.out HA.out _).mono ?_
    rintro e w10 ⟨rfl, hG⟩
    have HT10 := Lib.hid (HT9.out.grown hG)
    have Z10 := Lib.hid (gr_trans Z9.out hG)
    clear hG
    rw [ek.out]
    go_wp2_with fail
    refine (Taken_c 9 _ _ (by decide) HX.out HY.out _).mono ?_
    rintro e w11 ⟨rfl, hG⟩
    have HT11 := Lib.hid (HT10.out.grown hG)
    have Z11 := Lib.hid (gr_trans Z10.out hG)
    clear hG
    rw [ex.out]
    go_wp2_with fail
    go_ret
    exact ⟨rfl, gr_below Z11.out⟩


theorem own : ownKnob Tryd.prog.godebug = none := by kernel_rfl
theorem laidOut : laidOutB Tryd.prog = true := by kernel_rfl

set_option maxRecDepth 100000 in
theorem lifted (os : Os) (started : os.Started) (H : Type) (enc : TypeId × Value → H) :
    ReturnsInHanded {} Tryd.checked os 5 .any (fun w args => (Rows.aluBranchesSpec.pre enc Tryd.prog Tryd.f5 [] false w args ∧ laidMetH Tryd.prog laidL w) ∧ sizedMet enc Tryd.prog Tryd.f5 (OpenSpec.ofChange Rows.aluBranchesSpec) false w args)
      (Rows.aluBranchesSpec.post enc Tryd.prog Tryd.f5 false true false false) := by
  refine returnsInHanded_of_change_and (C := Tryd.checked) (X := fun w _ => laidMetH Tryd.prog laidL w) (fun _ _ _ hh h => h.of_heap hh) own started (by kernel_rfl) Tryd.func5
    (ChangeSpec.witness_shaped (enc := enc) (C := Tryd.checked) (os := os) (X := fun w _ => laidMetH Tryd.prog laidL w) false (World.doorLaid Tryd.prog 400 os) #[.int .u64 0, .int .u64 0] 8 rfl (World.shaped_of_RefB (by kernel_rfl) (by kernel_rfl)) (by kernel_rfl) (by kernel_rfl) (by kernel_rfl) (door_met os _)) ?_
  intro W base args ds gs before hval0 hW _ _ hL _
  have hval : ∀ (j : Nat) t v, Tryd.f5.params[j]? = some t → args[j]? = some v → Value.okWide Tryd.prog W .any base t v := hval0
  have hW' := hW
  obtain ⟨p, q, hA0, hV, rfl, hfz, hnd⟩ := hW
  have hA : DataW.TrodAll enc Tryd.prog W 0 (fun _ => true) true Tryd.f5.params.toList args.toList ds p := hA0
  rw [Tryd.params5] at hA hval
  obtain ⟨v0, vs0, d0, ds0, p0, q0, hargs, rfl, rfl, h0, r0⟩ := trodAll_cons hA
  obtain ⟨v1, vs1, d1, ds1, p1, q1, rfl, rfl, rfl, h1, r1⟩ := trodAll_cons r0
  obtain ⟨rfl, rfl, rfl⟩ := trodAll_nil r1
  obtain rfl : args = #[v0, v1] := by cases args; simp_all
  obtain ⟨rfl, rfl⟩ := trodVars_none hV
  clear hA0 hval0 hA
  have k0 := h0
  have lt0 : ∀ x ∈ p0, x.block < W.heap.size := by obtain ⟨m, hm⟩ := k0; exact DataW.trod_lt m _ _ _ hm
  obtain ⟨a0, rfl, rfl, rfl, w0⟩ := open_int Tryd.underlying22 (hval 0 22 v0 rfl rfl) h0
  have k1 := h1
  have lt1 : ∀ x ∈ p1, x.block < W.heap.size := by obtain ⟨m, hm⟩ := k1; exact DataW.trod_lt m _ _ _ hm
  obtain ⟨a1, rfl, rfl, rfl, w1⟩ := open_int Tryd.underlying22 (hval 1 22 v1 rfl rfl) h1
  refine (walk W (of_laid hL) a0 w0 a1 w1).mono fun e W' ⟨he, bel⟩ => ?_
  subst he
  exact ⟨_, rfl, _, _, _, [], _, [], hW', trodAll_mk1 (shut_bool Tryd.underlying4 _), (trodAll_cons_mk (Below.trod laidOut (by kernel_rfl) (of_decide_eq_true (by kernel_rfl)) k0 bel lt0) (trodAll_cons_mk (Below.trod laidOut (by kernel_rfl) (of_decide_eq_true (by kernel_rfl)) k1 bel lt1) trodAll_mk0)), rfl, bel.frame _, fun h => by cases h⟩

theorem over : Rows.AluBranchesSaid :=
  OpenClaim.holds_of_wide 5 Tryd.f5 rfl rfl rfl rfl rfl rfl rfl ⟨rfl, rfl, rfl, rfl, rfl⟩ rfl rfl rfl rfl rfl (by kernel_rfl) Tryd.func5 (by kernel_rfl)
    (of_decide_eq_true (by kernel_rfl)) (by unfold Func.isWrapper; first | (rw [if_pos (by decide +kernel)]; kernel_rfl) | (rw [if_neg (by decide +kernel)]; exact ⟨rfl, rfl⟩))
    (fun os started H enc _ => lifted os started H enc)

/-- The statement: the card, its listed variable tied to the program's text. -/
theorem proved : Rows.AluBranchesCardSaid :=
  Claim7.holds_tied_plain_at .later [] [.data] true (true, "f053542d1011ec4d679a08a86226c28570616c134fd3b4b88d7a1209d25f1ea1") false
    over (fun _ h => by cases h) (by kernel_rfl) (fun _ h => by cases h) aluBranches_row_tie rfl ⟨rfl, rfl⟩ (by kernel_rfl) rfl
    (fun f fn hf hfn => by
      obtain rfl : f = 5 := Option.some.inj ((show Tryd.prog.funcNamed "suzerain/suzerainlaw07.AluBranches" = some 5 by kernel_rfl).symm.trans hf) |>.symm
      obtain rfl : fn = Tryd.f5 := (Option.some.inj (Tryd.func5.symm.trans hfn)).symm
      exact ⟨by kernel_rfl, fun j t ht => by
        rw [Tryd.params5] at ht
        have hm : t ∈ [22, 22] := by simpa using Array.mem_of_getElem? ht
        have hall : ([22, 22].all fun u => !Tryd.prog.wantsStandIn u) = true := by kernel_rfl
        exact (show Tryd.prog.wantsStandIn t = false by simpa using List.all_eq_true.1 hall t hm)⟩)
    (by kernel_rfl)
#print axioms proved

