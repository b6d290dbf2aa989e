/-
  Proved: for any word and any number, the law EncRefuses returns true: an instruction with a register, or a number, beyond what a word can say, or with what it does not have, has no word.
  Conditions: none beyond the statement's own (its listed variables are tied to the program's text).
-/
import Derived.Test.YtpbeamnogfjagaaGreatDoorRows
import Derived.Test.YtpbeamnogfjagaaGreatDoorCards
import Derived.Test.YtpbeamnogfjagaaGreatDoorTie
import Derived.Test.YtpbeamnogfjagaaGreatDoorOpen
import Derived.Lib.Hide
import Derived.SevenTiedAt
import Derived.Test.YtpbeamnogfjagaaGreatDoorEncDoor
import Derived.Test.YtpbeamnogfjagaaGreatDoorEncRefusesA
import Derived.Test.YtpbeamnogfjagaaGreatDoorEncRefusesB
namespace Go.Proofs.YtpbeamnogfjagaaGreatDoor.encRefuses
open Go Go.ChangeShapes Go.WideShapes Go.ChangeAt Go.RowKit F W M D E
set_option linter.unusedVariables false

theorem walk (w : World) (hL : Tabs w) (a0 : Int) (w0 : (Lit.int .u32 a0).wf = true) (a1 : Int) (w1 : (Lit.int .i64 a1).wf = true) :
    Calls Tryz.prog 5 #[.int .u32 a0, .int .i64 a1] w fun e w' => e = .returned (.bool true) ∧ Below w.heap.size w w' := by
  have h0 := bounds_u32 w0
  have h1 := bounds_i64 w1
  clear w0 w1
  obtain ⟨x, rfl⟩ : ∃ x : Nat, a0 = x := ⟨a0.toNat, by omega⟩
  have hx : x < 4294967296 := by omega
  obtain ⟨o, rd, rs1, rs2, im, hV⟩ : ∃ o rd rs1 rs2 im, D.wordV x = (o, rd, rs1, rs2, im) := ⟨_, _, _, _, _, rfl⟩
  cases k1 : okE o a1 rs1 rs2 im 4 <;> cases k2 : okE o rd rs1 rs2 a1 4 <;> cases k4 : okE a1 rd rs1 rs2 im 4
  · exact wayFFF x hx a1 h1 o rd rs1 rs2 im hV k1 k2 k4 w hL
  · exact wayFFT x hx a1 h1 o rd rs1 rs2 im hV k1 k2 k4 w hL
  · exact wayFTF x hx a1 h1 o rd rs1 rs2 im hV k1 k2 k4 w hL
  · exact wayFTT x hx a1 h1 o rd rs1 rs2 im hV k1 k2 k4 w hL
  · exact wayTFF x hx a1 h1 o rd rs1 rs2 im hV k1 k2 k4 w hL
  · exact wayTFT x hx a1 h1 o rd rs1 rs2 im hV k1 k2 k4 w hL
  · exact wayTTF x hx a1 h1 o rd rs1 rs2 im hV k1 k2 k4 w hL
  · exact wayTTT x hx a1 h1 o rd rs1 rs2 im hV k1 k2 k4 w hL

theorem own : ownKnob Tryz.prog.godebug = none := by kernel_rfl
theorem laidOut : laidOutB Tryz.prog = true := by kernel_rfl

set_option maxRecDepth 100000 in
theorem lifted (os : Os) (started : os.Started) (H : Type) (enc : TypeId × Value → H) :
    ReturnsInHanded {} Tryz.checked os 5 .any (fun w args => (Rows.encRefusesSpec.pre enc Tryz.prog Tryz.f5 [] false w args ∧ laidMetH Tryz.prog laidL w) ∧ sizedMet enc Tryz.prog Tryz.f5 (OpenSpec.ofChange Rows.encRefusesSpec) false w args)
      (Rows.encRefusesSpec.post enc Tryz.prog Tryz.f5 false true false false) := by
  refine returnsInHanded_of_change_and (C := Tryz.checked) (X := fun w _ => laidMetH Tryz.prog laidL w) (fun _ _ _ hh h => h.of_heap hh) own started (by kernel_rfl) Tryz.func5
    (ChangeSpec.witness_shaped (enc := enc) (C := Tryz.checked) (os := os) (X := fun w _ => laidMetH Tryz.prog laidL w) false (World.doorLaid Tryz.prog 400 os) #[.int .u32 0, .int .i64 0] 8 rfl (World.shaped_of_RefB (by kernel_rfl) (by kernel_rfl)) (by kernel_rfl) (by kernel_rfl) (by kernel_rfl) (door_met os _)) ?_
  intro W base args ds gs before hval0 hW _ _ hL _
  have hval : ∀ (j : Nat) t v, Tryz.f5.params[j]? = some t → args[j]? = some v → Value.okWide Tryz.prog W .any base t v := hval0
  have hW' := hW
  obtain ⟨p, q, hA0, hV, rfl, hfz, hnd⟩ := hW
  have hA : DataW.TrodAll enc Tryz.prog W 0 (fun _ => true) true Tryz.f5.params.toList args.toList ds p := hA0
  rw [Tryz.params5] at hA hval
  obtain ⟨v0, vs0, d0, ds0, p0, q0, hargs, rfl, rfl, h0, r0⟩ := trodAll_cons hA
  obtain ⟨v1, vs1, d1, ds1, p1, q1, rfl, rfl, rfl, h1, r1⟩ := trodAll_cons r0
  obtain ⟨rfl, rfl, rfl⟩ := trodAll_nil r1
  obtain rfl : args = #[v0, v1] := by cases args; simp_all
  obtain ⟨rfl, rfl⟩ := trodVars_none hV
  clear hA0 hval0 hA
  have k0 := h0
  have lt0 : ∀ x ∈ p0, x.block < W.heap.size := by obtain ⟨m, hm⟩ := k0; exact DataW.trod_lt m _ _ _ hm
  obtain ⟨a0, rfl, rfl, rfl, w0⟩ := open_int Tryz.underlying25 (hval 0 25 v0 rfl rfl) h0
  have k1 := h1
  have lt1 : ∀ x ∈ p1, x.block < W.heap.size := by obtain ⟨m, hm⟩ := k1; exact DataW.trod_lt m _ _ _ hm
  obtain ⟨a1, rfl, rfl, rfl, w1⟩ := open_int Tryz.underlying3 (hval 1 3 v1 rfl rfl) h1
  refine (walk W (of_laid hL) a0 w0 a1 w1).mono fun e W' ⟨he, bel⟩ => ?_
  subst he
  exact ⟨_, rfl, _, _, _, [], _, [], hW', trodAll_mk1 (shut_bool Tryz.underlying4 _), (trodAll_cons_mk (Below.trod laidOut (by kernel_rfl) (of_decide_eq_true (by kernel_rfl)) k0 bel lt0) (trodAll_cons_mk (Below.trod laidOut (by kernel_rfl) (of_decide_eq_true (by kernel_rfl)) k1 bel lt1) trodAll_mk0)), rfl, bel.frame _, fun h => by cases h⟩

theorem over : Rows.EncRefusesSaid :=
  OpenClaim.holds_of_wide 5 Tryz.f5 rfl rfl rfl rfl rfl rfl rfl ⟨rfl, rfl, rfl, rfl, rfl⟩ rfl rfl rfl rfl rfl (by kernel_rfl) Tryz.func5 (by kernel_rfl)
    (of_decide_eq_true (by kernel_rfl)) (by unfold Func.isWrapper; first | (rw [if_pos (by decide +kernel)]; kernel_rfl) | (rw [if_neg (by decide +kernel)]; exact ⟨rfl, rfl⟩))
    (fun os started H enc _ => lifted os started H enc)

/-- The statement: the card, its listed variable tied to the program's text. -/
theorem proved : Rows.EncRefusesCardSaid :=
  Claim7.holds_tied_plain_at .later [] [.data, .data, .data, .data, .data, .data] true (true, "82b3145cddd84957564239319662a7f032c6bc35cca285d7f35570caedf0bb32") false
    over (fun _ h => by cases h) (by kernel_rfl) (fun _ h => by cases h) encRefuses_row_tie rfl ⟨rfl, rfl⟩ (by kernel_rfl) rfl
    (fun f fn hf hfn => by
      obtain rfl : f = 5 := Option.some.inj ((show Tryz.prog.funcNamed "suzerain/suzerainlaw06.EncRefuses" = some 5 by kernel_rfl).symm.trans hf) |>.symm
      obtain rfl : fn = Tryz.f5 := (Option.some.inj (Tryz.func5.symm.trans hfn)).symm
      exact ⟨by kernel_rfl, fun j t ht => by
        rw [Tryz.params5] at ht
        have hm : t ∈ [25, 3] := by simpa using Array.mem_of_getElem? ht
        have hall : ([25, 3].all fun u => !Tryz.prog.wantsStandIn u) = true := by kernel_rfl
        exact (show Tryz.prog.wantsStandIn t = false by simpa using List.all_eq_true.1 hall t hm)⟩)
    (by kernel_rfl)
#print axioms proved

end Go.Proofs.YtpbeamnogfjagaaGreatDoor.encRefuses
