/-
  Proved: for any word, the law DecodeFields returns true: registers are 0 to 31, numbers within what their form can say; what an instruction does not have is 0; one that is none has nothing but its length.
  Conditions: none beyond the statement's own (its listed variable is tied to the program's text).
-/
import Derived.Test.YtdcihcmhmgeheaaDoorRows
import Derived.Test.YtdcihcmhmgeheaaDoorCards
import Derived.Test.YtdcihcmhmgeheaaDoorTie
import Derived.Test.YtdcihcmhmgeheaaDoorOpen
import Derived.Lib.Hide
import Derived.SevenTiedAt
import Derived.Test.YtdcihcmhmgeheaaDoorDecDoor
import Derived.Test.YtdcihcmhmgeheaaDoorDecodeFieldsA
import Derived.Test.YtdcihcmhmgeheaaDoorDecodeFieldsB
import Derived.Test.YtdcihcmhmgeheaaDoorDecodeFieldsC
import Derived.Test.YtdcihcmhmgeheaaDoorDecodeFieldsD
namespace Go.Proofs.YtdcihcmhmgeheaaDoor.decodeFields
open Go Go.ChangeShapes Go.WideShapes Go.ChangeAt Go.RowKit F W M D
set_option linter.unusedVariables false

theorem imm1 (x : Nat) : -4096 ≤ immV x 1 ∧ immV x 1 ≤ 4095 := by
  have h := imm_in x 1 (by decide)
  rw [bts_eq.1, show (2 : Int) ^ (12 - 1) = 2048 from by decide] at h; omega
theorem imm2 (x : Nat) : -4096 ≤ immV x 2 ∧ immV x 2 ≤ 4095 := by
  have h := imm_in x 2 (by decide)
  rw [bts_eq.2.1, show (2 : Int) ^ (12 - 1) = 2048 from by decide] at h; omega
theorem imm3 (x : Nat) : -4096 ≤ immV x 3 ∧ immV x 3 ≤ 4095 := by
  have h := imm_in x 3 (by decide)
  rw [bts_eq.2.2.1, show (2 : Int) ^ (13 - 1) = 4096 from by decide] at h; omega
theorem imm4 (x : Nat) : -2147483648 ≤ immV x 4 ∧ immV x 4 ≤ 2147483647 := by
  have h := imm_in x 4 (by decide)
  rw [bts_eq.2.2.2.1, show (2 : Int) ^ (32 - 1) = 2147483648 from by decide] at h; omega
theorem imm5 (x : Nat) : -2147483648 ≤ immV x 5 ∧ immV x 5 ≤ 2147483647 := by
  have h := imm_in x 5 (by decide)
  rw [bts_eq.2.2.2.2, show (2 : Int) ^ (21 - 1) = 1048576 from by decide] at h; omega
theorem reg (x l : Nat) : (0 : Int) ≤ (get x l 5 : Nat) ∧ ((get x l 5 : Nat) : Int) ≤ 31 := by have := get_lt x l 5; omega
theorem ranges (o : Int) (h0 : 0 ≤ o) (h1 : o ≤ 97) : o = 0 ∨ (1 ≤ o ∧ o ≤ 2) ∨ o = 3 ∨ o = 4 ∨ (5 ≤ o ∧ o ≤ 10) ∨ (11 ≤ o ∧ o ≤ 17) ∨ (18 ≤ o ∧ o ≤ 21) ∨ (22 ≤ o ∧ o ≤ 27) ∨ (28 ≤ o ∧ o ≤ 30) ∨ (31 ≤ o ∧ o ≤ 40) ∨ o = 41
    ∨ (42 ≤ o ∧ o ≤ 44) ∨ (45 ≤ o ∧ o ≤ 49) ∨ (50 ≤ o ∧ o ≤ 57) ∨ (58 ≤ o ∧ o ≤ 62) ∨ (63 ≤ o ∧ o ≤ 68) ∨ o = 69 ∨ (70 ≤ o ∧ o ≤ 75) ∨ o = 76 ∨ (77 ≤ o ∧ o ≤ 86) ∨ o = 87 ∨ (88 ≤ o ∧ o ≤ 97) := by omega

set_option maxHeartbeats 1000000 in
theorem walk (w : World) (hL : Tbl w) (a0 : Int) (w0 : (Lit.int .u32 a0).wf = true) :
    Calls Tryd.prog 4 #[.int .u32 a0] w fun e w' => e = .returned (.bool true) ∧ Below w.heap.size w w' := by
  have h0 := bounds_u32 w0
  clear w0
  obtain ⟨x, rfl⟩ : ∃ x : Nat, a0 = x := ⟨a0.toNat, by omega⟩
  have hx : x < 4294967296 := by omega
  obtain ⟨o0, o1, hS⟩ := word_shape x
  generalize (D.wordV x).1 = o at *
  have rd := reg x 7
  have r1 := reg x 15
  have r2 := reg x 20
  rcases ranges o o0 o1 with rfl | h | rfl | rfl | h | h | h | h | h | h | rfl | h | h | h | h | h | rfl | h | rfl | h | rfl | h
  · rw [shape0 0 x (by decide)] at hS
    exact way_none x hx hS w hL
  · rw [shape1 o x h] at hS
    exact way_k1 x hx o _ _ (by omega) rd (imm4 x) hS w hL
  · rw [shape2 3 x (by decide)] at hS
    exact way_k1 x hx 3 _ _ (by decide) rd (imm5 x) hS w hL
  · rw [shape3 4 x (by decide)] at hS
    exact way_jalr x hx _ _ _ rd r1 (by have := imm1 x; omega) hS w hL
  · rw [shape4 o x h] at hS
    exact way_k2 x hx o _ _ _ h r1 r2 (imm3 x) hS w hL
  · rw [shape5 o x h] at hS
    exact way_k3 x hx o _ _ _ h rd r1 (imm1 x) hS w hL
  · rw [shape6 o x h] at hS
    exact way_k4 x hx o _ _ _ h r1 r2 (imm2 x) hS w hL
  · rw [shape7 o x h] at hS
    exact way_k5 x hx o _ _ _ (by omega) rd r1 (imm1 x) hS w hL
  · rw [shape8 o x h] at hS
    exact way_k5 x hx o _ _ _ (by omega) rd r1 (by have := get_lt x 20 6; omega) hS w hL
  · rw [shape9 o x h] at hS
    exact way_k6 x hx o _ _ _ h rd r1 r2 hS w hL
  · rw [shape10 41 x (by decide)] at hS
    exact way_k7 x hx 41 _ _ _ (by decide) rd r1 (imm1 x) hS w hL
  · rw [shape11 o x h] at hS
    exact way_k7 x hx o _ _ _ (by omega) rd r1 (by have := get_lt x 20 5; omega) hS w hL
  · rw [shape12 o x (by omega)] at hS
    exact way_k8 x hx o _ _ _ h rd r1 r2 hS w hL
  · rw [shape12 o x (by omega)] at hS
    exact way_k9 x hx o _ _ _ h rd r1 r2 hS w hL
  · rw [shape12 o x (by omega)] at hS
    exact way_k10 x hx o _ _ _ h rd r1 r2 hS w hL
  · rw [shape13 o x h] at hS
    exact way_k11 x hx o h hS w hL
  · rw [shape14 69 x (by decide)] at hS
    exact way_sfence x hx _ _ r1 r2 hS w hL
  · rw [shape15 o x h] at hS
    exact way_k12 x hx o _ _ _ h rd r1 (by have := get_lt x 20 12; omega) hS w hL
  · rw [shape16 76 x (by decide)] at hS
    exact way_lrw x hx _ _ rd r1 hS w hL
  · rw [shape17 o x h] at hS
    exact way_k13 x hx o _ _ _ h rd r1 r2 hS w hL
  · rw [shape18 87 x (by decide)] at hS
    exact way_lrd x hx _ _ rd r1 hS w hL
  · rw [shape19 o x (by omega)] at hS
    exact way_k14 x hx o _ _ _ h rd r1 r2 hS w hL

theorem own : ownKnob Tryd.prog.godebug = none := by kernel_rfl
theorem laidOut : laidOutB Tryd.prog = true := by kernel_rfl

set_option maxRecDepth 100000 in
theorem lifted (os : Os) (started : os.Started) (H : Type) (enc : TypeId × Value → H) :
    ReturnsInHanded {} Tryd.checked os 4 .any (fun w args => (Rows.decodeFieldsSpec.pre enc Tryd.prog Tryd.f4 [] false w args ∧ laidMetH Tryd.prog laidL w) ∧ sizedMet enc Tryd.prog Tryd.f4 (OpenSpec.ofChange Rows.decodeFieldsSpec) false w args)
      (Rows.decodeFieldsSpec.post enc Tryd.prog Tryd.f4 false true false false) := by
  refine returnsInHanded_of_change_and (C := Tryd.checked) (X := fun w _ => laidMetH Tryd.prog laidL w) (fun _ _ _ hh h => h.of_heap hh) own started (by kernel_rfl) Tryd.func4
    (ChangeSpec.witness_shaped (enc := enc) (C := Tryd.checked) (os := os) (X := fun w _ => laidMetH Tryd.prog laidL w) false (World.doorLaid Tryd.prog 400 os) #[.int .u32 0] 8 rfl (World.shaped_of_RefB (by kernel_rfl) (by kernel_rfl)) (by kernel_rfl) (by kernel_rfl) (by kernel_rfl) (door_met os _)) ?_
  intro W base args ds gs before hval0 hW _ _ hL _
  have hval : ∀ (j : Nat) t v, Tryd.f4.params[j]? = some t → args[j]? = some v → Value.okWide Tryd.prog W .any base t v := hval0
  have hW' := hW
  obtain ⟨p, q, hA0, hV, rfl, hfz, hnd⟩ := hW
  have hA : DataW.TrodAll enc Tryd.prog W 0 (fun _ => true) true Tryd.f4.params.toList args.toList ds p := hA0
  rw [Tryd.params4] at hA hval
  obtain ⟨v0, vs0, d0, ds0, p0, q0, hargs, rfl, rfl, h0, r0⟩ := trodAll_cons hA
  obtain ⟨rfl, rfl, rfl⟩ := trodAll_nil r0
  obtain rfl : args = #[v0] := by cases args; simp_all
  obtain ⟨rfl, rfl⟩ := trodVars_none hV
  clear hA0 hval0 hA
  have k0 := h0
  have lt0 : ∀ x ∈ p0, x.block < W.heap.size := by obtain ⟨m, hm⟩ := k0; exact DataW.trod_lt m _ _ _ hm
  obtain ⟨a0, rfl, rfl, rfl, w0⟩ := open_int Tryd.underlying22 (hval 0 22 v0 rfl rfl) h0
  refine (walk W (of_laid hL) a0 w0).mono fun e W' ⟨he, bel⟩ => ?_
  subst he
  exact ⟨_, rfl, _, _, _, [], _, [], hW', trodAll_mk1 (shut_bool Tryd.underlying4 _), (trodAll_cons_mk (Below.trod laidOut (by kernel_rfl) (of_decide_eq_true (by kernel_rfl)) k0 bel lt0) trodAll_mk0), rfl, bel.frame _, fun h => by cases h⟩

theorem over : Rows.DecodeFieldsSaid :=
  OpenClaim.holds_of_wide 4 Tryd.f4 rfl rfl rfl rfl rfl rfl rfl ⟨rfl, rfl, rfl, rfl, rfl⟩ rfl rfl rfl rfl rfl (by kernel_rfl) Tryd.func4 (by kernel_rfl)
    (of_decide_eq_true (by kernel_rfl)) (by unfold Func.isWrapper; first | (rw [if_pos (by decide +kernel)]; kernel_rfl) | (rw [if_neg (by decide +kernel)]; exact ⟨rfl, rfl⟩))
    (fun os started H enc _ => lifted os started H enc)

/-- The statement: the card, its listed variable tied to the program's text. -/
theorem proved : Rows.DecodeFieldsCardSaid :=
  Claim7.holds_tied_plain_at .later [] [.data] true (true, "7849b47f98f0832acb1a4035c472c4c9086a66ce973dde5adbca576edec10596") false
    over (fun _ h => by cases h) (by kernel_rfl) (fun _ h => by cases h) decodeFields_row_tie rfl ⟨rfl, rfl⟩ (by kernel_rfl) rfl
    (fun f fn hf hfn => by
      obtain rfl : f = 4 := Option.some.inj ((show Tryd.prog.funcNamed "suzerain/suzerainlaw04.DecodeFields" = some 4 by kernel_rfl).symm.trans hf) |>.symm
      obtain rfl : fn = Tryd.f4 := (Option.some.inj (Tryd.func4.symm.trans hfn)).symm
      exact ⟨by kernel_rfl, fun j t ht => by
        rw [Tryd.params4] at ht
        have hm : t ∈ [22] := by simpa using Array.mem_of_getElem? ht
        have hall : ([22].all fun u => !Tryd.prog.wantsStandIn u) = true := by kernel_rfl
        exact (show Tryd.prog.wantsStandIn t = false by simpa using List.all_eq_true.1 hall t hm)⟩)
    (by kernel_rfl)
#print axioms proved

end Go.Proofs.YtdcihcmhmgeheaaDoor.decodeFields
