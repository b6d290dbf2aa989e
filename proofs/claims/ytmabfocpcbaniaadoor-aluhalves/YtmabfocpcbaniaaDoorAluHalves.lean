/-
  Proved: for any two numbers, any two other higher halves and any of the fourteen ops of 32 bits, the law AluHalves returns true: what is done of 32 bits does not hang on the higher halves, and has its sign in them.
  Conditions: none beyond the statement's own (its listed variable is tied to the program's text).
-/
import Derived.Test.YtmabfocpcbaniaaDoorRows
import Derived.Test.YtmabfocpcbaniaaDoorCards
import Derived.Test.YtmabfocpcbaniaaDoorTie
import Derived.Test.YtmabfocpcbaniaaDoorOpen
import Derived.Lib.Hide
import Derived.SevenTiedAt
import Derived.Test.YtmabfocpcbaniaaDoorAluDoor
import Derived.Test.YtmabfocpcbaniaaDoorAluLaw
namespace Go.Proofs.YtmabfocpcbaniaaDoor.aluHalves
open Go Go.ChangeShapes Go.WideShapes Go.ChangeAt Go.RowKit W M D A
set_option linter.unusedVariables false

theorem at14 (k : Nat) (hk : k < 14) : ∃ o, o ∈ half14 ∧ (half14.map (Value.int .i64))[k]? = some (.int .i64 o) ∧ -9223372036854775808 ≤ o ∧ o ≤ 9223372036854775807 := by
  have all : ∀ k : Nat, k < 14 → (half14.map (Value.int .i64))[k]? = some (.int .i64 (half14.getD k 0)) ∧ half14.getD k 0 ∈ half14 ∧ -9223372036854775808 ≤ half14.getD k 0 ∧ half14.getD k 0 ≤ 9223372036854775807 := by
    intro k hk
    rcases (show k = 0 ∨ k = 1 ∨ k = 2 ∨ k = 3 ∨ k = 4 ∨ k = 5 ∨ k = 6 ∨ k = 7 ∨ k = 8 ∨ k = 9 ∨ k = 10 ∨ k = 11 ∨ k = 12 ∨ k = 13 by omega) with rfl | rfl | rfl | rfl | rfl | rfl | rfl | rfl | rfl | rfl | rfl | rfl | rfl | rfl
    all_goals exact ⟨rfl, by decide, by decide, by decide⟩
  have := all k hk
  exact ⟨_, this.2.1, this.1, this.2.2⟩
set_option maxRecDepth 100000 in
set_option maxHeartbeats 4000000 in
theorem walk (w : World) (hL : Tbl w) (a0 : Int) (w0 : (Lit.int .u64 a0).wf = true) (a1 : Int) (w1 : (Lit.int .u64 a1).wf = true) (a2_0 : Int) (w2_0 : (Lit.int .u32 a2_0).wf = true) (a2_1 : Int) (w2_1 : (Lit.int .u32 a2_1).wf = true) (a2_2 : Int) (w2_2 : (Lit.int .u8 a2_2).wf = true) :
    Calls Tryd.prog 4 #[.int .u64 a0, .int .u64 a1, .agg #[.int .u32 a2_0, .int .u32 a2_1, .int .u8 a2_2]] w fun e w' => e = .returned (.bool true) ∧ Below w.heap.size w w' := by
  have ha : B64 a0 := bounds_u64 w0
  have hb : B64 a1 := bounds_u64 w1
  have h0 := bounds_u32 w2_0
  have h1 := bounds_u32 w2_1
  have h2 := bounds_u8 w2_2
  clear w0 w1 w2_0 w2_1 w2_2
  have HA := Lib.hid ha
  have HB := Lib.hid hb
  obtain ⟨k, hk, hk14⟩ : ∃ k : Nat, a2_2 % 14 = k ∧ k < 14 := ⟨(a2_2 % 14).toNat, by omega, by omega⟩
  obtain ⟨o, ho, hck, hob⟩ := at14 k hk14
  have HO := Lib.hid ho
  have HOB := Lib.hid hob
  have HT0 := Lib.hid (hL.grown (gr_alloc (gr_refl w none) (.cells #[.int .u32 a2_0, .int .u32 a2_1, .int .u8 a2_2] 34)))
  have Z0 := Lib.hid (gr_alloc (gr_refl w none) (.cells #[.int .u32 a2_0, .int .u32 a2_1, .int .u8 a2_2] 34))
  have R0 := Lib.hid (Row.fresh w 34 [.int .u32 a2_0, .int .u32 a2_1, .int .u8 a2_2])
  clear hL
  obtain ⟨y, hy⟩ : ∃ y, doV o a0 a1 = y := ⟨_, rfl⟩
  have hc : B64 (a0 % 4294967296 + a2_0 * 4294967296) := by unfold B64; omega
  have hd : B64 (a1 % 4294967296 + a2_1 * 4294967296) := by unfold B64; omega
  have HC := Lib.hid hc
  have HD := Lib.hid hd
  have E2 := Lib.hid (show doV o (a0 % 4294967296 + a2_0 * 4294967296) (a1 % 4294967296 + a2_1 * 4294967296) = y by rw [← hy]; exact half_cong o ho a0 a1 _ _ (by omega) (by omega))
  have hsm := sm_cases (half_sm o ho a0 a1)
  rw [hy] at hsm
  have E1 := Lib.hid hy
  clear hy ho hob
  unfold B64 at *
  have g32 : (2 : Int) ^ 32 = 4294967296 := rfl
  rcases hsm with ⟨hyb, hy1, hy2⟩ | ⟨hyb, hy1, hy2⟩
  all_goals
    go_enter Tryd.func4, Tryd.ntmps4
    go_wp2_with fail
    refine (shown07_c _ HT0.out).mono ?_
    rintro e w1 ⟨rfl, hG⟩
    have R1 := Lib.hid (R0.out.grown hG (by simp))
    have HT1 := Lib.hid (HT0.out.grown hG)
    have Z1 := Lib.hid (gr_trans Z0.out hG)
    clear hG
    have R2 := Lib.hid (R1.out.alloc (.cells #[.int .i64 41, .int .i64 42, .int .i64 43, .int .i64 44, .int .i64 45, .int .i64 46, .int .i64 47, .int .i64 48, .int .i64 49, .int .i64 58, .int .i64 59, .int .i64 60, .int .i64 61, .int .i64 62] 3))
    have c0 := R2.out.cell 0
    have c1 := R2.out.cell 1
    have c2 := R2.out.cell 2
    simp only [List.getElem?_cons_zero, List.getElem?_cons_succ] at c0 c1 c2
    have cK : (w1.alloc (.cells #[.int .i64 41, .int .i64 42, .int .i64 43, .int .i64 44, .int .i64 45, .int .i64 46, .int .i64 47, .int .i64 48, .int .i64 49, .int .i64 58, .int .i64 59, .int .i64 60, .int .i64 61, .int .i64 62] 3)).cell? ⟨w1.heap.size, k, none⟩ = some (.int .i64 o) := by rw [← hck]; exact (Row.fresh w1 3 (half14.map (Value.int .i64))).cell k
    have HT2 := Lib.hid (HT1.out.grown (gr_alloc (gr_refl w1 none) (.cells #[.int .i64 41, .int .i64 42, .int .i64 43, .int .i64 44, .int .i64 45, .int .i64 46, .int .i64 47, .int .i64 48, .int .i64 49, .int .i64 58, .int .i64 59, .int .i64 60, .int .i64 61, .int .i64 62] 3)))
    have Z2 := Lib.hid (gr_alloc Z1.out (.cells #[.int .i64 41, .int .i64 42, .int .i64 43, .int .i64 44, .int .i64 45, .int .i64 46, .int .i64 47, .int .i64 48, .int .i64 49, .int .i64 58, .int .i64 59, .int .i64 60, .int .i64 61, .int .i64 62] 3))
    clear hck
    go_wp2_with fail
    refine (Do_c o a0 a1 HOB.out HA.out HB.out _ HT2.out).mono ?_
    rintro e w3 ⟨rfl, hG⟩
    have HT3 := Lib.hid (HT2.out.grown hG)
    have Z3 := Lib.hid (gr_trans Z2.out hG)
    clear hG
    rw [E1.out]
    go_wp2_with fail
    refine (Do_c o _ _ HOB.out HC.out HD.out _ HT3.out).mono ?_
    rintro e w4 ⟨rfl, hG⟩
    have HT4 := Lib.hid (HT3.out.grown hG)
    have Z4 := Lib.hid (gr_trans Z3.out hG)
    clear hG
    rw [E2.out]
    go_wp2_with fail
    go_ret
    exact ⟨rfl, gr_below Z4.out⟩


theorem own : ownKnob Tryd.prog.godebug = none := by kernel_rfl
theorem laidOut : laidOutB Tryd.prog = true := by kernel_rfl

set_option maxRecDepth 100000 in
theorem lifted (os : Os) (started : os.Started) (H : Type) (enc : TypeId × Value → H) :
    ReturnsInHanded {} Tryd.checked os 4 .any (fun w args => (Rows.aluHalvesSpec.pre enc Tryd.prog Tryd.f4 [] false w args ∧ laidMetH Tryd.prog laidL w) ∧ sizedMet enc Tryd.prog Tryd.f4 (OpenSpec.ofChange Rows.aluHalvesSpec) false w args)
      (Rows.aluHalvesSpec.post enc Tryd.prog Tryd.f4 false true false false) := by
  refine returnsInHanded_of_change_and (C := Tryd.checked) (X := fun w _ => laidMetH Tryd.prog laidL w) (fun _ _ _ hh h => h.of_heap hh) own started (by kernel_rfl) Tryd.func4
    (ChangeSpec.witness_shaped (enc := enc) (C := Tryd.checked) (os := os) (X := fun w _ => laidMetH Tryd.prog laidL w) false (World.doorLaid Tryd.prog 400 os) #[.int .u64 0, .int .u64 0, .agg #[.int .u32 0, .int .u32 0, .int .u8 0]] 8 rfl (World.shaped_of_RefB (by kernel_rfl) (by kernel_rfl)) (by kernel_rfl) (by kernel_rfl) (by kernel_rfl) (door_met os _)) ?_
  intro W base args ds gs before hval0 hW _ _ hL _
  have hval : ∀ (j : Nat) t v, Tryd.f4.params[j]? = some t → args[j]? = some v → Value.okWide Tryd.prog W .any base t v := hval0
  have hW' := hW
  obtain ⟨p, q, hA0, hV, rfl, hfz, hnd⟩ := hW
  have hA : DataW.TrodAll enc Tryd.prog W 0 (fun _ => true) true Tryd.f4.params.toList args.toList ds p := hA0
  rw [Tryd.params4] at hA hval
  obtain ⟨v0, vs0, d0, ds0, p0, q0, hargs, rfl, rfl, h0, r0⟩ := trodAll_cons hA
  obtain ⟨v1, vs1, d1, ds1, p1, q1, rfl, rfl, rfl, h1, r1⟩ := trodAll_cons r0
  obtain ⟨v2, vs2, d2, ds2, p2, q2, rfl, rfl, rfl, h2, r2⟩ := trodAll_cons r1
  obtain ⟨rfl, rfl, rfl⟩ := trodAll_nil r2
  obtain rfl : args = #[v0, v1, v2] := by cases args; simp_all
  obtain ⟨rfl, rfl⟩ := trodVars_none hV
  clear hA0 hval0 hA
  have k0 := h0
  have lt0 : ∀ x ∈ p0, x.block < W.heap.size := by obtain ⟨m, hm⟩ := k0; exact DataW.trod_lt m _ _ _ hm
  obtain ⟨a0, rfl, rfl, rfl, w0⟩ := open_int Tryd.underlying22 (hval 0 22 v0 rfl rfl) h0
  have k1 := h1
  have lt1 : ∀ x ∈ p1, x.block < W.heap.size := by obtain ⟨m, hm⟩ := k1; exact DataW.trod_lt m _ _ _ hm
  obtain ⟨a1, rfl, rfl, rfl, w1⟩ := open_int Tryd.underlying22 (hval 1 22 v1 rfl rfl) h1
  have k2 := h2
  have lt2 : ∀ x ∈ p2, x.block < W.heap.size := by obtain ⟨m, hm⟩ := k2; exact DataW.trod_lt m _ _ _ hm
  obtain ⟨xs2, rfl, l2, m2, f2⟩ := Op.open_struct Tryd.underlying34 (hval 2 34 v2 rfl rfl) h2
  rw [show Tryd.prog.cellsOf 34 = 3 from by kernel_rfl] at l2
  obtain _ | ⟨c2_0, xs2⟩ := xs2
  · simp at l2
  obtain _ | ⟨c2_1, xs2⟩ := xs2
  · simp at l2
  obtain _ | ⟨c2_2, xs2⟩ := xs2
  · simp at l2
  obtain _ | ⟨_, _⟩ := xs2
  rotate_left
  · simp at l2
  clear h2
  obtain ⟨y2_0, g2_0⟩ := f2 0 _ rfl
  replace g2_0 : DataW.trod enc Tryd.prog W 0 (fun _ => true) true m2 32 [c2_0] = some y2_0 := g2_0
  obtain ⟨a2_0, e2_0, _, w2_0⟩ := DataW.trod_int Tryd.underlying32 g2_0
  simp at e2_0; subst e2_0
  obtain ⟨y2_1, g2_1⟩ := f2 1 _ rfl
  replace g2_1 : DataW.trod enc Tryd.prog W 0 (fun _ => true) true m2 32 [c2_1] = some y2_1 := g2_1
  obtain ⟨a2_1, e2_1, _, w2_1⟩ := DataW.trod_int Tryd.underlying32 g2_1
  simp at e2_1; subst e2_1
  obtain ⟨y2_2, g2_2⟩ := f2 2 _ rfl
  replace g2_2 : DataW.trod enc Tryd.prog W 0 (fun _ => true) true m2 5 [c2_2] = some y2_2 := g2_2
  obtain ⟨a2_2, e2_2, _, w2_2⟩ := DataW.trod_int Tryd.underlying5 g2_2
  simp at e2_2; subst e2_2
  refine (walk W (of_laid hL) a0 w0 a1 w1 a2_0 w2_0 a2_1 w2_1 a2_2 w2_2).mono fun e W' ⟨he, bel⟩ => ?_
  subst he
  exact ⟨_, rfl, _, _, _, [], _, [], hW', trodAll_mk1 (shut_bool Tryd.underlying4 _), (trodAll_cons_mk (Below.trod laidOut (by kernel_rfl) (of_decide_eq_true (by kernel_rfl)) k0 bel lt0) (trodAll_cons_mk (Below.trod laidOut (by kernel_rfl) (of_decide_eq_true (by kernel_rfl)) k1 bel lt1) (trodAll_cons_mk (Below.trod laidOut (by kernel_rfl) (of_decide_eq_true (by kernel_rfl)) k2 bel lt2) trodAll_mk0))), rfl, bel.frame _, fun h => by cases h⟩

theorem over : Rows.AluHalvesSaid :=
  OpenClaim.holds_of_wide 4 Tryd.f4 rfl rfl rfl rfl rfl rfl rfl ⟨rfl, rfl, rfl, rfl, rfl⟩ rfl rfl rfl rfl rfl (by kernel_rfl) Tryd.func4 (by kernel_rfl)
    (of_decide_eq_true (by kernel_rfl)) (by unfold Func.isWrapper; first | (rw [if_pos (by decide +kernel)]; kernel_rfl) | (rw [if_neg (by decide +kernel)]; exact ⟨rfl, rfl⟩))
    (fun os started H enc _ => lifted os started H enc)

/-- The statement: the card, its listed variable tied to the program's text. -/
theorem proved : Rows.AluHalvesCardSaid :=
  Claim7.holds_tied_plain_at .later [] [.data] true (true, "f053542d1011ec4d679a08a86226c28570616c134fd3b4b88d7a1209d25f1ea1") false
    over (fun _ h => by cases h) (by kernel_rfl) (fun _ h => by cases h) aluHalves_row_tie rfl ⟨rfl, rfl⟩ (by kernel_rfl) rfl
    (fun f fn hf hfn => by
      obtain rfl : f = 4 := Option.some.inj ((show Tryd.prog.funcNamed "suzerain/suzerainlaw07.AluHalves" = some 4 by kernel_rfl).symm.trans hf) |>.symm
      obtain rfl : fn = Tryd.f4 := (Option.some.inj (Tryd.func4.symm.trans hfn)).symm
      exact ⟨by kernel_rfl, fun j t ht => by
        rw [Tryd.params4] at ht
        have hm : t ∈ [22, 22, 34] := by simpa using Array.mem_of_getElem? ht
        have hall : ([22, 22, 34].all fun u => !Tryd.prog.wantsStandIn u) = true := by kernel_rfl
        exact (show Tryd.prog.wantsStandIn t = false by simpa using List.all_eq_true.1 hall t hm)⟩)
    (by kernel_rfl)
#print axioms proved

