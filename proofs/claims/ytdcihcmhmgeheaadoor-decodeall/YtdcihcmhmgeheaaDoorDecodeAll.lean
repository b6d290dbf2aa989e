/-
  Proved: for any word and any number, the law DecodeAll returns true: any word is the instruction that the document says, or none; and any number is of the kind that it says.
  Conditions: none beyond the statement's own (its listed variable is tied to the program's text).
-/
import Derived.Test.YtdcihcmhmgeheaaDoorRows
import Derived.Test.YtdcihcmhmgeheaaDoorCards
import Derived.Test.YtdcihcmhmgeheaaDoorTie
import Derived.Test.YtdcihcmhmgeheaaDoorOpen
import Derived.Lib.Hide
import Derived.SevenTiedAt
import Derived.Test.YtdcihcmhmgeheaaDoorDecDoor
import Derived.Test.YtdcihcmhmgeheaaDoorDecWA
import Derived.Test.YtdcihcmhmgeheaaDoorDecWB
import Derived.Test.YtdcihcmhmgeheaaDoorDecWC
namespace Go.Proofs.YtdcihcmhmgeheaaDoor.decodeAll
open Go Go.ChangeShapes Go.WideShapes Go.ChangeAt Go.RowKit F W M D refWord
set_option linter.unusedVariables false

theorem ranges (o : Int) (h0 : 0 ≤ o) (h1 : o ≤ 97) : o = 0 ∨ (1 ≤ o ∧ o ≤ 2) ∨ o = 3 ∨ o = 4 ∨ (5 ≤ o ∧ o ≤ 10) ∨ (11 ≤ o ∧ o ≤ 17) ∨ (18 ≤ o ∧ o ≤ 21) ∨ (22 ≤ o ∧ o ≤ 27) ∨ (28 ≤ o ∧ o ≤ 30) ∨ (31 ≤ o ∧ o ≤ 40) ∨ o = 41
    ∨ (42 ≤ o ∧ o ≤ 44) ∨ (45 ≤ o ∧ o ≤ 49) ∨ (50 ≤ o ∧ o ≤ 57) ∨ (58 ≤ o ∧ o ≤ 62) ∨ (63 ≤ o ∧ o ≤ 68) ∨ o = 69 ∨ (70 ≤ o ∧ o ≤ 75) ∨ o = 76 ∨ (77 ≤ o ∧ o ≤ 86) ∨ o = 87 ∨ (88 ≤ o ∧ o ≤ 97) := by omega
/-- The document's own Word answers as the program's. -/
theorem rWord_c (x : Nat) (hx : x < 4294967296) (w : World) :
    Calls Tryd.prog 9 #[.int .u32 x] w fun e w' => e = .returned (.agg (insn 4 (D.wordV x))) ∧ w.grownBy w' none := by
  obtain ⟨o0, o1, hS⟩ := word_shape x
  rw [hS]
  clear hS
  generalize hO : (D.wordV x).1 = o at *
  rcases ranges o o0 o1 with rfl | h | rfl | rfl | h | h | h | h | h | h | rfl | h | h | h | h | h | rfl | h | rfl | h | rfl | h
  · rw [shape0 0 x (by decide)]; exact way_none x hx hO w
  · rw [shape1 o x h]; exact way_k1 x hx o hO h w
  · rw [shape2 3 x (by decide)]; exact way_jal x hx hO w
  · rw [shape3 4 x (by decide)]; exact way_jalr x hx hO w
  · rw [shape4 o x h]; exact way_k2 x hx o hO h w
  · rw [shape5 o x h]; exact way_k3 x hx o hO h w
  · rw [shape6 o x h]; exact way_k4 x hx o hO h w
  · rw [shape7 o x h]; exact way_k5a x hx o hO h w
  · rw [shape8 o x h]; exact way_k5b x hx o hO h w
  · rw [shape9 o x h]; exact way_k6 x hx o hO h w
  · rw [shape10 41 x (by decide)]; exact way_k7a x hx hO w
  · rw [shape11 o x h]; exact way_k7b x hx o hO h w
  · rw [shape12 o x (by omega)]; exact way_k8 x hx o hO h w
  · rw [shape12 o x (by omega)]; exact way_k9 x hx o hO h w
  · rw [shape12 o x (by omega)]; exact way_k10 x hx o hO h w
  · rw [shape13 o x h]; exact way_k11 x hx o hO h w
  · rw [shape14 69 x (by decide)]; exact way_sfence x hx hO w
  · rw [shape15 o x h]; exact way_k12 x hx o hO h w
  · rw [shape16 76 x (by decide)]; exact way_lrw x hx hO w
  · rw [shape17 o x h]; exact way_k13 x hx o hO h w
  · rw [shape18 87 x (by decide)]; exact way_lrd x hx hO w
  · rw [shape19 o x (by omega)]; exact way_k14 x hx o hO h w

set_option maxRecDepth 100000 in
set_option maxHeartbeats 2000000 in
theorem walk (w : World) (hL : Tbl w) (a0 : Int) (w0 : (Lit.int .u32 a0).wf = true) (a1 : Int) (w1 : (Lit.int .i64 a1).wf = true) :
    Calls Tryd.prog 3 #[.int .u32 a0, .int .i64 a1] w fun e w' => e = .returned (.bool true) ∧ Below w.heap.size w w' := by
  have h0 := bounds_u32 w0
  have h1 := bounds_i64 w1
  clear w0 w1
  obtain ⟨x, rfl⟩ : ∃ x : Nat, a0 = x := ⟨a0.toNat, by omega⟩
  have hx : x < 4294967296 := by omega
  have HL := Lib.hid hL
  clear hL
  obtain ⟨o, rd, rs1, rs2, im, hW⟩ : ∃ o rd rs1 rs2 im, D.wordV x = (o, rd, rs1, rs2, im) := ⟨_, _, _, _, _, rfl⟩
  have HW := Lib.hid (fun W => Word_c x hx W)
  have HV := Lib.hid (fun W => rWord_c x hx W)
  rw [hW] at HW HV
  clear hW
  have HK := Lib.hid (fun W h => Kind_c a1 h1 W h)
  have HJ := Lib.hid (fun W => rKind_c a1 h1 W)
  generalize kindV a1 = k at *
  go_enter Tryd.func3, Tryd.ntmps3
  go_wp2_with fail
  refine (shown04_c _).mono ?_
  rintro e w1 ⟨rfl, hG1⟩
  go_wp2_with fail
  refine (HW.out _).mono ?_
  rintro e w2 ⟨rfl, hG2⟩
  simp only [insn]
  go_wp2_with fail
  refine (HV.out _).mono ?_
  rintro e w3 ⟨rfl, hG3⟩
  simp only [insn]
  go_wp2_with fail
  refine (HK.out _ (HL.out.grown (gr_trans (gr_trans hG1 hG2) hG3))).mono ?_
  rintro e w4 ⟨rfl, rfl⟩
  go_wp2_with fail
  refine (HJ.out _).mono ?_
  rintro e w4 ⟨rfl, hG4⟩
  go_wp2_with fail
  go_ret
  exact ⟨rfl, gr_below (gr_trans (gr_trans (gr_trans hG1 hG2) hG3) hG4)⟩

theorem own : ownKnob Tryd.prog.godebug = none := by kernel_rfl
theorem laidOut : laidOutB Tryd.prog = true := by kernel_rfl

set_option maxRecDepth 100000 in
theorem lifted (os : Os) (started : os.Started) (H : Type) (enc : TypeId × Value → H) :
    ReturnsInHanded {} Tryd.checked os 3 .any (fun w args => (Rows.decodeAllSpec.pre enc Tryd.prog Tryd.f3 [] false w args ∧ laidMetH Tryd.prog laidL w) ∧ sizedMet enc Tryd.prog Tryd.f3 (OpenSpec.ofChange Rows.decodeAllSpec) false w args)
      (Rows.decodeAllSpec.post enc Tryd.prog Tryd.f3 false true false false) := by
  refine returnsInHanded_of_change_and (C := Tryd.checked) (X := fun w _ => laidMetH Tryd.prog laidL w) (fun _ _ _ hh h => h.of_heap hh) own started (by kernel_rfl) Tryd.func3
    (ChangeSpec.witness_shaped (enc := enc) (C := Tryd.checked) (os := os) (X := fun w _ => laidMetH Tryd.prog laidL w) false (World.doorLaid Tryd.prog 400 os) #[.int .u32 0, .int .i64 0] 8 rfl (World.shaped_of_RefB (by kernel_rfl) (by kernel_rfl)) (by kernel_rfl) (by kernel_rfl) (by kernel_rfl) (door_met os _)) ?_
  intro W base args ds gs before hval0 hW _ _ hL _
  have hval : ∀ (j : Nat) t v, Tryd.f3.params[j]? = some t → args[j]? = some v → Value.okWide Tryd.prog W .any base t v := hval0
  have hW' := hW
  obtain ⟨p, q, hA0, hV, rfl, hfz, hnd⟩ := hW
  have hA : DataW.TrodAll enc Tryd.prog W 0 (fun _ => true) true Tryd.f3.params.toList args.toList ds p := hA0
  rw [Tryd.params3] at hA hval
  obtain ⟨v0, vs0, d0, ds0, p0, q0, hargs, rfl, rfl, h0, r0⟩ := trodAll_cons hA
  obtain ⟨v1, vs1, d1, ds1, p1, q1, rfl, rfl, rfl, h1, r1⟩ := trodAll_cons r0
  obtain ⟨rfl, rfl, rfl⟩ := trodAll_nil r1
  obtain rfl : args = #[v0, v1] := by cases args; simp_all
  obtain ⟨rfl, rfl⟩ := trodVars_none hV
  clear hA0 hval0 hA
  have k0 := h0
  have lt0 : ∀ x ∈ p0, x.block < W.heap.size := by obtain ⟨m, hm⟩ := k0; exact DataW.trod_lt m _ _ _ hm
  obtain ⟨a0, rfl, rfl, rfl, w0⟩ := open_int Tryd.underlying22 (hval 0 22 v0 rfl rfl) h0
  have k1 := h1
  have lt1 : ∀ x ∈ p1, x.block < W.heap.size := by obtain ⟨m, hm⟩ := k1; exact DataW.trod_lt m _ _ _ hm
  obtain ⟨a1, rfl, rfl, rfl, w1⟩ := open_int Tryd.underlying3 (hval 1 3 v1 rfl rfl) h1
  refine (walk W (of_laid hL) a0 w0 a1 w1).mono fun e W' ⟨he, bel⟩ => ?_
  subst he
  exact ⟨_, rfl, _, _, _, [], _, [], hW', trodAll_mk1 (shut_bool Tryd.underlying4 _), (trodAll_cons_mk (Below.trod laidOut (by kernel_rfl) (of_decide_eq_true (by kernel_rfl)) k0 bel lt0) (trodAll_cons_mk (Below.trod laidOut (by kernel_rfl) (of_decide_eq_true (by kernel_rfl)) k1 bel lt1) trodAll_mk0)), rfl, bel.frame _, fun h => by cases h⟩

theorem over : Rows.DecodeAllSaid :=
  OpenClaim.holds_of_wide 3 Tryd.f3 rfl rfl rfl rfl rfl rfl rfl ⟨rfl, rfl, rfl, rfl, rfl⟩ rfl rfl rfl rfl rfl (by kernel_rfl) Tryd.func3 (by kernel_rfl)
    (of_decide_eq_true (by kernel_rfl)) (by unfold Func.isWrapper; first | (rw [if_pos (by decide +kernel)]; kernel_rfl) | (rw [if_neg (by decide +kernel)]; exact ⟨rfl, rfl⟩))
    (fun os started H enc _ => lifted os started H enc)

/-- The statement: the card, its listed variable tied to the program's text. -/
theorem proved : Rows.DecodeAllCardSaid :=
  Claim7.holds_tied_plain_at .later [] [.data] true (true, "7849b47f98f0832acb1a4035c472c4c9086a66ce973dde5adbca576edec10596") false
    over (fun _ h => by cases h) (by kernel_rfl) (fun _ h => by cases h) decodeAll_row_tie rfl ⟨rfl, rfl⟩ (by kernel_rfl) rfl
    (fun f fn hf hfn => by
      obtain rfl : f = 3 := Option.some.inj ((show Tryd.prog.funcNamed "suzerain/suzerainlaw04.DecodeAll" = some 3 by kernel_rfl).symm.trans hf) |>.symm
      obtain rfl : fn = Tryd.f3 := (Option.some.inj (Tryd.func3.symm.trans hfn)).symm
      exact ⟨by kernel_rfl, fun j t ht => by
        rw [Tryd.params3] at ht
        have hm : t ∈ [22, 3] := by simpa using Array.mem_of_getElem? ht
        have hall : ([22, 3].all fun u => !Tryd.prog.wantsStandIn u) = true := by kernel_rfl
        exact (show Tryd.prog.wantsStandIn t = false by simpa using List.all_eq_true.1 hall t hm)⟩)
    (by kernel_rfl)
#print axioms proved

end Go.Proofs.YtdcihcmhmgeheaaDoor.decodeAll
