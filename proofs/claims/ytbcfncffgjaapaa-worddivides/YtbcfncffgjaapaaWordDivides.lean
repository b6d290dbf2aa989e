/-
  Proved: for any two numbers of 64 bits the law WordDivides returns true: what is divided is what comes of it times the other, and the rest, which is smaller and has the sign of what was divided.
  Conditions: none beyond the statement's own.
-/
import Derived.Test.YtbcfncffgjaapaaRows
import Derived.WalkKit
import Derived.ProofKit
import Derived.OpenShut
import Derived.Test.YtbcfncffgjaapaaWordLaw
import Derived.Test.YtbcfncffgjaapaaWordM
namespace Go.Proofs.Ytbcfncffgjaapaa.wordDivides
open Go Go.ChangeShapes Go.WideShapes Go.ChangeAt Go.RowKit W
set_option linter.unusedVariables false      -- a walk need not use every 'w<i>' (that an integer argument fits its kind)

theorem own : ownKnob Try.prog.godebug = none := by kernel_rfl

theorem walk (a0 : Int) (a1 : Int) (w0 : (Lit.int .u64 a0).wf = true) (w1 : (Lit.int .u64 a1).wf = true) (w : World) :
    Calls Try.prog 4 #[.int .u64 a0, .int .u64 a1] w fun e w' => e = .returned (.bool true) ∧ Grown w w' := by
  have ha := bounds_u64 w0
  have hb := bounds_u64 w1
  clear w0 w1
  have HU := Lib.hid (divU_back a0 a1 ha hb)
  have HS := Lib.hid (divS_back a0 a1 ha hb)
  have HA := Lib.hid (and_all a1 hb)
  by_cases hz : a1 = 0
  · have H0 : Hid (divV a0 a1 false = 18446744073709551615 ∧ remV a0 a1 false = a0 ∧ divV a0 a1 true = 18446744073709551615 ∧ remV a0 a1 true = a0) := by
      apply Lib.hid; subst hz; exact div_by_0 a0 ha
    have HZ := Lib.hid hz; clear hz
    go_enter Try.func4, Try.ntmps4
    go_wp2_with fail
    refine (shown01_c _).mono ?_
    rintro e w' ⟨rfl, rfl⟩
    go_wp2_with fail
    refine (Div_c _ _ _ ha hb _).mono ?_
    rintro e w' ⟨rfl, rfl⟩
    go_wp2_with fail
    refine (Rem_c _ _ _ ha hb _).mono ?_
    rintro e w' ⟨rfl, rfl⟩
    go_wp2_with fail
    refine (Div_c _ _ _ ha hb _).mono ?_
    rintro e w' ⟨rfl, rfl⟩
    go_wp2_with fail
    refine (Rem_c _ _ _ ha hb _).mono ?_
    rintro e w' ⟨rfl, rfl⟩
    have hU := HU.out; have hS := HS.out; have hA := HA.out; obtain ⟨q0, r0, s0, t0⟩ := H0.out; have hz := HZ.out
    clear HU HS HA H0 HZ
    rw [q0, r0, s0, t0] at *
    subst hz
    go_wp2_with fail
    go_ret
    exact ⟨rfl, Grown.refl _⟩
  · have hp : 0 < a1 := by omega
    have hr := remU_less a0 a1 hp
    have HT := Lib.hid (remS_sign a0 a1 ha hp hb.2)
    go_enter Try.func4, Try.ntmps4
    go_wp2_with fail
    refine (shown01_c _).mono ?_
    rintro e w' ⟨rfl, rfl⟩
    go_wp2_with fail
    refine (Div_c _ _ _ ha hb _).mono ?_
    rintro e w' ⟨rfl, rfl⟩
    go_wp2_with fail
    refine (Rem_c _ _ _ ha hb _).mono ?_
    rintro e w' ⟨rfl, rfl⟩
    go_wp2_with fail
    refine (Div_c _ _ _ ha hb _).mono ?_
    rintro e w' ⟨rfl, rfl⟩
    go_wp2_with fail
    refine (Rem_c _ _ _ ha hb _).mono ?_
    rintro e w' ⟨rfl, rfl⟩
    have hU := HU.out; have hS := HS.out; have hA := HA.out; have hT := HT.out
    clear HU HS HA HT
    generalize divV a0 a1 false = q at *
    generalize remV a0 a1 false = r at *
    generalize divV a0 a1 true = s at *
    generalize remV a0 a1 true = t at *
    have hz' : (a1 == 0) = false := by simpa using hz
    by_cases ht : t = 0
    · have ht' : (t == 0) = true := by simpa using ht
      clear hT ht
      go_wp2_with fail
      go_ret
      exact ⟨rfl, Grown.refl _⟩
    · have hT' := hT ht
      have ht' : (t == 0) = false := by simpa using ht
      clear hT ht
      go_wp2_with fail
      go_ret
      exact ⟨rfl, Grown.refl _⟩

/-! ### THE ROW's STEP: WRITTEN OUT: LEAVE IT -/
set_option maxRecDepth 100000 in
theorem lifted (os : Os) (started : os.Started) (H : Type) (enc : TypeId × Value → H) :
    ReturnsInHanded {} Try.checked os 4 .any (Rows.wordDividesSpec.pre6 enc Try.prog Try.f4 Rows.wordDividesRow.domain false) (Rows.wordDividesSpec.post enc Try.prog Try.f4 false true false false) := by
  refine returnsInHanded_of_change (C := Try.checked) own started (by kernel_rfl) Try.func4
    (ChangeSpec.witness6 (enc := enc) (C := Try.checked) false ⟨#[], #[.int .u64 0, .int .u64 0], []⟩ 8 (by kernel_rfl) (by kernel_rfl) (by kernel_rfl) (by kernel_rfl)) ?_
  intro W base args ds gs before hval0 hW hcnd _
  have hval : ∀ (j : Nat) t v, Try.f4.params[j]? = some t → args[j]? = some v → Value.okWide Try.prog W .any base t v := hval0
  have hW' := hW
  obtain ⟨p, q, hA0, hV, rfl, hfz, hnd⟩ := hW
  have hA : DataW.TrodAll enc Try.prog W 0 (fun _ => true) true Try.f4.params.toList args.toList ds p := hA0
  rw [Try.params4] at hA hval
  obtain ⟨v0, vs0, d0, ds0, p0, q0, hargs, rfl, rfl, h0, r0⟩ := trodAll_cons hA
  obtain ⟨v1, vs1, d1, ds1, p1, q1, rfl, rfl, rfl, h1, r1⟩ := trodAll_cons r0
  obtain ⟨rfl, rfl, rfl⟩ := trodAll_nil r1
  obtain rfl : args = #[v0, v1] := by cases args; simp_all
  obtain ⟨rfl, rfl⟩ := trodVars_none hV
  obtain ⟨a0, rfl, rfl, rfl, w0⟩ := open_int Try.underlying22 (hval 0 22 v0 rfl rfl) h0
  obtain ⟨a1, rfl, rfl, rfl, w1⟩ := open_int Try.underlying22 (hval 1 22 v1 rfl rfl) h1
  clear hA0 hval0
  simp only [List.append_nil] at hW'
  refine (walk a0 a1 w0 w1 W).mono fun e W' ⟨he, hg⟩ => ?_
  subst he
  exact ⟨_, rfl, post_of_same (pa := []) (pv := []) hW' (fun _ _ _ => (trodAll_cons_mk (shut_bool Try.underlying4 _) trodAll_mk0)) (fun sp _ => (trodAll_cons_mk (shut_int Try.underlying22 w0) (trodAll_cons_mk (shut_int Try.underlying22 w1) trodAll_mk0))) (fun _ _ => rfl) rfl
    (hg.frame _) hg.2.1 (ok_one (by kernel_rfl) rfl (okWide_bool_mk Try.underlying4 _))⟩

theorem over : Rows.wordDividesRow.holds Try.pinned (OpenSpec.ofChange Rows.wordDividesSpec) :=
  OpenClaim.holds_of_wide 4 Try.f4 rfl rfl rfl rfl rfl rfl rfl ⟨rfl, rfl, rfl, rfl, rfl⟩ rfl rfl rfl rfl rfl (by kernel_rfl) Try.func4 (by kernel_rfl)
    (of_decide_eq_true (by kernel_rfl)) (by unfold Func.isWrapper; first | (rw [if_pos (by decide +kernel)]; kernel_rfl) | (rw [if_neg (by decide +kernel)]; exact ⟨rfl, rfl⟩))
    (fun os started H enc _ => lifted os started H enc)

/-- ████ THE STATEMENT ████ -/
theorem proved : Rows.WordDividesSaid :=
  over
#print axioms proved
end Go.Proofs.Ytbcfncffgjaapaa.wordDivides
