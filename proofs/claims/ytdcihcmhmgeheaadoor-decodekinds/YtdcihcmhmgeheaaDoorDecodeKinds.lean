/-
  Proved: for any number, the law DecodeKinds returns true: kinds follow each other without a gap, and what is no op has none.
  Conditions: none beyond the statement's own (its listed variable is tied to the program's text).
-/
import Derived.Test.YtdcihcmhmgeheaaDoorRows
import Derived.Test.YtdcihcmhmgeheaaDoorCards
import Derived.Test.YtdcihcmhmgeheaaDoorTie
import Derived.Test.YtdcihcmhmgeheaaDoorOpen
import Derived.Lib.Hide
import Derived.SevenTiedAt
import Derived.Test.YtdcihcmhmgeheaaDoorDecDoor
namespace Go.Proofs.YtdcihcmhmgeheaaDoor.decodeKinds
open Go Go.ChangeShapes Go.WideShapes Go.ChangeAt Go.RowKit F W M D
set_option linter.unusedVariables false

theorem kind_in (o : Int) : 0 ≤ kindV o ∧ kindV o ≤ 14 := by
  by_cases h : 97 < o
  · rw [kind_none o h]; omega
  · by_cases h0 : o ≤ 0
    · rw [kindV, if_pos h0]; omega
    · have all : ∀ k : Nat, k < 98 → 0 ≤ kindV k ∧ kindV k ≤ 14 := by decide
      have := all o.toNat (by omega)
      rwa [Int.toNat_of_nonneg (by omega)] at this
theorem kind_step : ∀ k : Nat, k < 98 → kindV k = kindV ((k : Int) - 1) ∨ kindV k = kindV ((k : Int) - 1) + 1 := by decide
theorem kind_pos (o : Int) : (kindV o ≠ 0) ↔ (0 < o ∧ o ≤ 97) := by
  by_cases h : 97 < o
  · rw [kind_none o h]; simp; omega
  · by_cases h0 : o ≤ 0
    · rw [kindV, if_pos h0]; simp; omega
    · have all : ∀ k : Nat, k < 98 → 0 < k → kindV k ≠ 0 := by decide
      have := all o.toNat (by omega) (by omega)
      rw [Int.toNat_of_nonneg (by omega)] at this
      simp only [this, ne_eq, not_false_eq_true, true_iff]; omega

set_option maxRecDepth 100000 in
set_option maxHeartbeats 2000000 in
theorem walk (w : World) (hL : Tbl w) (a0 : Int) (w0 : (Lit.int .i64 a0).wf = true) :
    Calls Tryd.prog 6 #[.int .i64 a0] w fun e w' => e = .returned (.bool true) ∧ Below w.heap.size w w' := by
  have h0 := bounds_i64 w0
  clear w0
  have HL := Lib.hid hL
  clear hL
  go_enter Tryd.func6, Tryd.ntmps6
  go_wp2_with fail
  refine (shown04_c _).mono ?_
  rintro e w1 ⟨rfl, hG1⟩
  have HL1 := Lib.hid (HL.out.grown hG1)
  go_wp2_with fail
  go_loop [4, 5] (fun l i => ∃ k : Nat, k ≤ 98 ∧ i = .int .i64 k ∧ l = .int .i64 (kindV ((k : Int) - 1))) (fun _ i => 98 - (intOf i).toNat)
  case atStart => exact ⟨0, by omega, rfl, rfl⟩
  case round =>
    obtain ⟨k, hk, rfl, rfl⟩ := hrel
    by_cases hlt : k < 98
    · have hs := kind_step k hlt
      have hb := kind_in k
      have hb' := kind_in ((k : Int) - 1)
      generalize hq : kindV ((k : Int) - 1) = q at *
      have HQ := Lib.hid hq
      clear hq
      go_wp2_with fail
      refine (Kind_c k (by omega) _ HL1.out).mono ?_
      rintro e w2 ⟨rfl, rfl⟩
      generalize hr : kindV k = r at *
      have HR := Lib.hid hr
      clear hr
      rcases hs with rfl | rfl
      all_goals
        go_wp2_with fail
        go_round
        case rel => exact ⟨k + 1, by omega, by go_num, by rw [show ((k + 1 : Nat) : Int) - 1 = k by omega, HR.out]⟩
        case measure => simp [intOf]; omega
    · obtain rfl : k = 98 := by omega
      rw [show kindV (((98 : Nat) : Int) - 1) = 14 from by decide]
      have HK := Lib.hid (kind_pos a0)
      by_cases hp : 0 < a0 ∧ a0 ≤ 97
      · have h1 : 0 < a0 := hp.1
        have h2 : a0 ≤ 97 := hp.2
        have hne : (kindV a0 != 0) = true := by simpa using HK.out.2 hp
        go_wp2_with fail
        refine (Kind_c 0 (by omega) _ HL1.out).mono ?_
        rintro e w2 ⟨rfl, rfl⟩
        rw [show kindV 0 = 0 from by decide]
        go_wp2_with fail
        refine (Kind_c a0 h0 _ HL1.out).mono ?_
        rintro e w2 ⟨rfl, rfl⟩
        generalize kindV a0 = r at *
        go_wp2_with fail
        go_ret
        exact ⟨rfl, gr_below hG1⟩
      · have hne : (kindV a0 != 0) = false := by
          have := HK.out
          simp only [bne_eq_false_iff_eq]
          exact Decidable.byContradiction fun h => hp (this.1 h)
        by_cases h1 : 0 < a0
        · have h2 : 97 < a0 := by omega
          have h3 : decide (a0 ≤ 97) = false := by simpa using h2
          go_wp2_with fail
          refine (Kind_c 0 (by omega) _ HL1.out).mono ?_
          rintro e w2 ⟨rfl, rfl⟩
          rw [show kindV 0 = 0 from by decide]
          go_wp2_with fail
          refine (Kind_c a0 h0 _ HL1.out).mono ?_
          rintro e w2 ⟨rfl, rfl⟩
          generalize kindV a0 = r at *
          go_wp2_with fail
          go_ret
          exact ⟨rfl, gr_below hG1⟩
        · have h2 : a0 ≤ 0 := by omega
          go_wp2_with fail
          refine (Kind_c 0 (by omega) _ HL1.out).mono ?_
          rintro e w2 ⟨rfl, rfl⟩
          rw [show kindV 0 = 0 from by decide]
          go_wp2_with fail
          refine (Kind_c a0 h0 _ HL1.out).mono ?_
          rintro e w2 ⟨rfl, rfl⟩
          generalize kindV a0 = r at *
          go_wp2_with fail
          go_ret
          exact ⟨rfl, gr_below hG1⟩

theorem own : ownKnob Tryd.prog.godebug = none := by kernel_rfl
theorem laidOut : laidOutB Tryd.prog = true := by kernel_rfl

set_option maxRecDepth 100000 in
theorem lifted (os : Os) (started : os.Started) (H : Type) (enc : TypeId × Value → H) :
    ReturnsInHanded {} Tryd.checked os 6 .any (fun w args => (Rows.decodeKindsSpec.pre enc Tryd.prog Tryd.f6 [] false w args ∧ laidMetH Tryd.prog laidL w) ∧ sizedMet enc Tryd.prog Tryd.f6 (OpenSpec.ofChange Rows.decodeKindsSpec) false w args)
      (Rows.decodeKindsSpec.post enc Tryd.prog Tryd.f6 false true false false) := by
  refine returnsInHanded_of_change_and (C := Tryd.checked) (X := fun w _ => laidMetH Tryd.prog laidL w) (fun _ _ _ hh h => h.of_heap hh) own started (by kernel_rfl) Tryd.func6
    (ChangeSpec.witness_shaped (enc := enc) (C := Tryd.checked) (os := os) (X := fun w _ => laidMetH Tryd.prog laidL w) false (World.doorLaid Tryd.prog 400 os) #[.int .i64 0] 8 rfl (World.shaped_of_RefB (by kernel_rfl) (by kernel_rfl)) (by kernel_rfl) (by kernel_rfl) (by kernel_rfl) (door_met os _)) ?_
  intro W base args ds gs before hval0 hW _ _ hL _
  have hval : ∀ (j : Nat) t v, Tryd.f6.params[j]? = some t → args[j]? = some v → Value.okWide Tryd.prog W .any base t v := hval0
  have hW' := hW
  obtain ⟨p, q, hA0, hV, rfl, hfz, hnd⟩ := hW
  have hA : DataW.TrodAll enc Tryd.prog W 0 (fun _ => true) true Tryd.f6.params.toList args.toList ds p := hA0
  rw [Tryd.params6] at hA hval
  obtain ⟨v0, vs0, d0, ds0, p0, q0, hargs, rfl, rfl, h0, r0⟩ := trodAll_cons hA
  obtain ⟨rfl, rfl, rfl⟩ := trodAll_nil r0
  obtain rfl : args = #[v0] := by cases args; simp_all
  obtain ⟨rfl, rfl⟩ := trodVars_none hV
  clear hA0 hval0 hA
  have k0 := h0
  have lt0 : ∀ x ∈ p0, x.block < W.heap.size := by obtain ⟨m, hm⟩ := k0; exact DataW.trod_lt m _ _ _ hm
  obtain ⟨a0, rfl, rfl, rfl, w0⟩ := open_int Tryd.underlying3 (hval 0 3 v0 rfl rfl) h0
  refine (walk W (of_laid hL) a0 w0).mono fun e W' ⟨he, bel⟩ => ?_
  subst he
  exact ⟨_, rfl, _, _, _, [], _, [], hW', trodAll_mk1 (shut_bool Tryd.underlying4 _), (trodAll_cons_mk (Below.trod laidOut (by kernel_rfl) (of_decide_eq_true (by kernel_rfl)) k0 bel lt0) trodAll_mk0), rfl, bel.frame _, fun h => by cases h⟩

theorem over : Rows.DecodeKindsSaid :=
  OpenClaim.holds_of_wide 6 Tryd.f6 rfl rfl rfl rfl rfl rfl rfl ⟨rfl, rfl, rfl, rfl, rfl⟩ rfl rfl rfl rfl rfl (by kernel_rfl) Tryd.func6 (by kernel_rfl)
    (of_decide_eq_true (by kernel_rfl)) (by unfold Func.isWrapper; first | (rw [if_pos (by decide +kernel)]; kernel_rfl) | (rw [if_neg (by decide +kernel)]; exact ⟨rfl, rfl⟩))
    (fun os started H enc _ => lifted os started H enc)

/-- The statement: the card, its listed variable tied to the program's text. -/
theorem proved : Rows.DecodeKindsCardSaid :=
  Claim7.holds_tied_plain_at .later [] [.data] true (true, "7849b47f98f0832acb1a4035c472c4c9086a66ce973dde5adbca576edec10596") false
    over (fun _ h => by cases h) (by kernel_rfl) (fun _ h => by cases h) decodeKinds_row_tie rfl ⟨rfl, rfl⟩ (by kernel_rfl) rfl
    (fun f fn hf hfn => by
      obtain rfl : f = 6 := Option.some.inj ((show Tryd.prog.funcNamed "suzerain/suzerainlaw04.DecodeKinds" = some 6 by kernel_rfl).symm.trans hf) |>.symm
      obtain rfl : fn = Tryd.f6 := (Option.some.inj (Tryd.func6.symm.trans hfn)).symm
      exact ⟨by kernel_rfl, fun j t ht => by
        rw [Tryd.params6] at ht
        have hm : t ∈ [3] := by simpa using Array.mem_of_getElem? ht
        have hall : ([3].all fun u => !Tryd.prog.wantsStandIn u) = true := by kernel_rfl
        exact (show Tryd.prog.wantsStandIn t = false by simpa using List.all_eq_true.1 hall t hm)⟩)
    (by kernel_rfl)
#print axioms proved

end Go.Proofs.YtdcihcmhmgeheaaDoor.decodeKinds
