/-
  Proved: for any op, any two numbers and any number of an instruction, the law AluAll returns true: what the numbers become, whether a branch is taken, and which number is the second, are the document's own.
  Conditions: none beyond the statement's own (its listed variable is tied to the program's text).
-/
import Derived.Test.YtmabfocpcbaniaaDoorRows
import Derived.Test.YtmabfocpcbaniaaDoorCards
import Derived.Test.YtmabfocpcbaniaaDoorTie
import Derived.Test.YtmabfocpcbaniaaDoorOpen
import Derived.Lib.Hide
import Derived.SevenTiedAt
import Derived.Deep.RegionHeld3
import Derived.Test.YtmabfocpcbaniaaDoorAluDoor
import Derived.Test.YtmabfocpcbaniaaDoorAluLaw
import Derived.Test.YtmabfocpcbaniaaDoorAluR2
namespace Go.Proofs.YtmabfocpcbaniaaDoor.aluAll
open Go Go.ChangeShapes Go.WideShapes Go.ChangeAt Go.RowKit W M D A
set_option linter.unusedVariables false

/-- The instruction stands in block b, the table where it stood. -/
def Held (w0 : World) (b : Nat) (o im : Int) (w : World) : Prop :=
  w.cell? ⟨b, 0, none⟩ = some (.int .i64 o) ∧ w.cell? ⟨b, 1, none⟩ = some (.int .i64 0) ∧ w.cell? ⟨b, 2, none⟩ = some (.int .i64 0) ∧ w.cell? ⟨b, 3, none⟩ = some (.int .i64 0) ∧ w.cell? ⟨b, 4, none⟩ = some (.int .i64 im) ∧ w.cell? ⟨b, 5, none⟩ = some (.int .i64 0) ∧
  Row w b 27 [.int .i64 o, .int .i64 0, .int .i64 0, .int .i64 0, .int .i64 im, .int .i64 0] ∧ Tbl w ∧ w0.grownBy w none
theorem held_of {w0 w : World} {b : Nat} {o im : Int} (h : Row w b 27 [.int .i64 o, .int .i64 0, .int .i64 0, .int .i64 0, .int .i64 im, .int .i64 0]) (hT : Tbl w) (hb : w0.grownBy w none) : Held w0 b o im w :=
  ⟨h.cell 0, h.cell 1, h.cell 2, h.cell 3, h.cell 4, h.cell 5, h, hT, hb⟩
theorem Held.on {w0 w w' : World} {b : Nat} {o im : Int} (hg : w.grownBy w' none) (h : Held w0 b o im w) : Held w0 b o im w' :=
  held_of (h.2.2.2.2.2.2.1.grown hg (by simp)) (h.2.2.2.2.2.2.2.1.grown hg) (gr_trans h.2.2.2.2.2.2.2.2 hg)
theorem Held.tbl {w0 w : World} {b : Nat} {o im : Int} (h : Held w0 b o im w) : Tbl w := h.2.2.2.2.2.2.2.1
theorem Held.gr {w0 w : World} {b : Nat} {o im : Int} (h : Held w0 b o im w) : w0.grownBy w none := h.2.2.2.2.2.2.2.2

set_option maxRecDepth 100000 in
set_option maxHeartbeats 8000000 in
theorem walk (w : World) (hL : Tbl w) (a0 : Int) (w0 : (Lit.int .i64 a0).wf = true) (a1_0 : Int) (w1_0 : (Lit.int .u64 a1_0).wf = true) (a1_1 : Int) (w1_1 : (Lit.int .u64 a1_1).wf = true) (a2 : Int) (w2 : (Lit.int .i64 a2).wf = true) :
    Calls Tryd.prog 3 #[.int .i64 a0, .agg #[.int .u64 a1_0, .int .u64 a1_1], .int .i64 a2] w fun e w' => e = .returned (.bool true) ∧ Below w.heap.size w w' := by
  have ho := bounds_i64 w0
  have ha : B64 a1_0 := bounds_u64 w1_0
  have hb : B64 a1_1 := bounds_u64 w1_1
  have hi := bounds_i64 w2
  clear w0 w1_0 w1_1 w2
  have HD := Lib.hid (fun W h => Do_c a0 a1_0 a1_1 ho ha hb W h)
  have HRD := Lib.hid (fun W => rDo_c a0 a1_0 a1_1 ho ha hb W)
  have HK := Lib.hid (fun W => Taken_c a0 a1_0 a1_1 ho ha hb W)
  have HRK := Lib.hid (fun W => rTaken_c a0 a1_0 a1_1 ho ha hb W)
  have HS := Lib.hid (fun W h => Second_c a0 0 0 0 a2 0 a1_1 ho hi hb W h)
  have HRS := Lib.hid (fun W => rSecond_c a0 0 0 0 a2 0 a1_1 ho hi hb W)
  generalize doV a0 a1_0 a1_1 = v at *
  generalize takenV a0 a1_0 a1_1 = t at *
  generalize secondV a0 a2 a1_1 = s at *
  have HT0 := Lib.hid (hL.grown (gr_alloc (gr_refl w none) (.cells #[.int .u64 a1_0, .int .u64 a1_1] 24)))
  have Z0 := Lib.hid (gr_alloc (gr_refl w none) (.cells #[.int .u64 a1_0, .int .u64 a1_1] 24))
  have R0 := Lib.hid (Row.fresh w 24 [.int .u64 a1_0, .int .u64 a1_1])
  clear hL
  unfold B64 at ha hb
  go_enter Tryd.func3, Tryd.ntmps3
  go_wp2_with fail
  refine (shown07_c _ HT0.out).mono ?_
  rintro e w1 ⟨rfl, hG⟩
  have HT1 := Lib.hid (HT0.out.grown hG)
  have Z1 := Lib.hid (gr_trans Z0.out hG)
  have R1 := Lib.hid (R0.out.grown hG (by simp))
  have c0 := R1.out.cell 0
  have c1 := R1.out.cell 1
  simp only [List.getElem?_cons_zero, List.getElem?_cons_succ] at c0 c1
  clear hG
  go_wp2_with fail
  have hS0 : Held w w1.heap.size a0 a2 (w1.alloc (.cells #[.int .i64 a0, .int .i64 0, .int .i64 0, .int .i64 0, .int .i64 a2, .int .i64 0] 27)) :=
    held_of (Row.fresh w1 _ _) (HT1.out.grown (gr_alloc (gr_refl _ _) _)) (gr_alloc Z1.out _)
  unfold Held at hS0
  clear c0 c1 R0 R1 HT0 HT1 Z0 Z1
  generalize w1.alloc (.cells #[.int .i64 a0, .int .i64 0, .int .i64 0, .int .i64 0, .int .i64 a2, .int .i64 0] 27) = W at *
  generalize w1.heap.size = b at *
  go_region_held3 (fun w' => w'.cell? ⟨b, 0, none⟩ = some (.int .i64 a0) ∧ w'.cell? ⟨b, 1, none⟩ = some (.int .i64 0) ∧ w'.cell? ⟨b, 2, none⟩ = some (.int .i64 0) ∧ w'.cell? ⟨b, 3, none⟩ = some (.int .i64 0) ∧ w'.cell? ⟨b, 4, none⟩ = some (.int .i64 a2) ∧ w'.cell? ⟨b, 5, none⟩ = some (.int .i64 0) ∧ Row w' b 27 [.int .i64 a0, .int .i64 0, .int .i64 0, .int .i64 0, .int .i64 a2, .int .i64 0] ∧ Tbl w' ∧ w.grownBy w' none)
    (first | assumption | (exact Held.on (gr_drew (gr_refl _ none)) (by assumption)) | (exact Held.on (by assumption) (by assumption)))
    (first
      | (go_at_call 9; refine (HD.out _ (Held.tbl (by assumption))).mono ?_; rintro e w' ⟨rfl, hg⟩)
      | (go_at_call 10; refine (HRD.out _).mono ?_; rintro e w' ⟨rfl, hg⟩)
      | (go_at_call 11; refine (HK.out _).mono ?_; rintro e w' ⟨rfl, hg⟩)
      | (go_at_call 12; refine (HRK.out _).mono ?_; rintro e w' ⟨rfl, hg⟩)
      | (go_at_call 13; refine (HS.out _ (Held.tbl (by assumption))).mono ?_; rintro e w' ⟨rfl, hg⟩)
      | (go_at_call 14; refine (HRS.out _).mono ?_; rintro e w' ⟨rfl, hg⟩))
  all_goals
    rename_i hHeld
    have hBe := Held.gr hHeld
    clear hHeld
    go_wp2_with fail
    go_ret
    exact ⟨rfl, gr_below hBe⟩

theorem own : ownKnob Tryd.prog.godebug = none := by kernel_rfl
theorem laidOut : laidOutB Tryd.prog = true := by kernel_rfl

set_option maxRecDepth 100000 in
theorem lifted (os : Os) (started : os.Started) (H : Type) (enc : TypeId × Value → H) :
    ReturnsInHanded {} Tryd.checked os 3 .any (fun w args => (Rows.aluAllSpec.pre enc Tryd.prog Tryd.f3 [] false w args ∧ laidMetH Tryd.prog laidL w) ∧ sizedMet enc Tryd.prog Tryd.f3 (OpenSpec.ofChange Rows.aluAllSpec) false w args)
      (Rows.aluAllSpec.post enc Tryd.prog Tryd.f3 false true false false) := by
  refine returnsInHanded_of_change_and (C := Tryd.checked) (X := fun w _ => laidMetH Tryd.prog laidL w) (fun _ _ _ hh h => h.of_heap hh) own started (by kernel_rfl) Tryd.func3
    (ChangeSpec.witness_shaped (enc := enc) (C := Tryd.checked) (os := os) (X := fun w _ => laidMetH Tryd.prog laidL w) false (World.doorLaid Tryd.prog 400 os) #[.int .i64 0, .agg #[.int .u64 0, .int .u64 0], .int .i64 0] 8 rfl (World.shaped_of_RefB (by kernel_rfl) (by kernel_rfl)) (by kernel_rfl) (by kernel_rfl) (by kernel_rfl) (door_met os _)) ?_
  intro W base args ds gs before hval0 hW _ _ hL _
  have hval : ∀ (j : Nat) t v, Tryd.f3.params[j]? = some t → args[j]? = some v → Value.okWide Tryd.prog W .any base t v := hval0
  have hW' := hW
  obtain ⟨p, q, hA0, hV, rfl, hfz, hnd⟩ := hW
  have hA : DataW.TrodAll enc Tryd.prog W 0 (fun _ => true) true Tryd.f3.params.toList args.toList ds p := hA0
  rw [Tryd.params3] at hA hval
  obtain ⟨v0, vs0, d0, ds0, p0, q0, hargs, rfl, rfl, h0, r0⟩ := trodAll_cons hA
  obtain ⟨v1, vs1, d1, ds1, p1, q1, rfl, rfl, rfl, h1, r1⟩ := trodAll_cons r0
  obtain ⟨v2, vs2, d2, ds2, p2, q2, rfl, rfl, rfl, h2, r2⟩ := trodAll_cons r1
  obtain ⟨rfl, rfl, rfl⟩ := trodAll_nil r2
  obtain rfl : args = #[v0, v1, v2] := by cases args; simp_all
  obtain ⟨rfl, rfl⟩ := trodVars_none hV
  clear hA0 hval0 hA
  have k0 := h0
  have lt0 : ∀ x ∈ p0, x.block < W.heap.size := by obtain ⟨m, hm⟩ := k0; exact DataW.trod_lt m _ _ _ hm
  obtain ⟨a0, rfl, rfl, rfl, w0⟩ := open_int Tryd.underlying3 (hval 0 3 v0 rfl rfl) h0
  have k1 := h1
  have lt1 : ∀ x ∈ p1, x.block < W.heap.size := by obtain ⟨m, hm⟩ := k1; exact DataW.trod_lt m _ _ _ hm
  obtain ⟨xs1, rfl, l1, m1, f1⟩ := Op.open_struct Tryd.underlying24 (hval 1 24 v1 rfl rfl) h1
  rw [show Tryd.prog.cellsOf 24 = 2 from by kernel_rfl] at l1
  obtain _ | ⟨c1_0, xs1⟩ := xs1
  · simp at l1
  obtain _ | ⟨c1_1, xs1⟩ := xs1
  · simp at l1
  obtain _ | ⟨_, _⟩ := xs1
  rotate_left
  · simp at l1
  clear h1
  obtain ⟨y1_0, g1_0⟩ := f1 0 _ rfl
  replace g1_0 : DataW.trod enc Tryd.prog W 0 (fun _ => true) true m1 22 [c1_0] = some y1_0 := g1_0
  obtain ⟨a1_0, e1_0, _, w1_0⟩ := DataW.trod_int Tryd.underlying22 g1_0
  simp at e1_0; subst e1_0
  obtain ⟨y1_1, g1_1⟩ := f1 1 _ rfl
  replace g1_1 : DataW.trod enc Tryd.prog W 0 (fun _ => true) true m1 22 [c1_1] = some y1_1 := g1_1
  obtain ⟨a1_1, e1_1, _, w1_1⟩ := DataW.trod_int Tryd.underlying22 g1_1
  simp at e1_1; subst e1_1
  have k2 := h2
  have lt2 : ∀ x ∈ p2, x.block < W.heap.size := by obtain ⟨m, hm⟩ := k2; exact DataW.trod_lt m _ _ _ hm
  obtain ⟨a2, rfl, rfl, rfl, w2⟩ := open_int Tryd.underlying2 (hval 2 2 v2 rfl rfl) h2
  refine (walk W (of_laid hL) a0 w0 a1_0 w1_0 a1_1 w1_1 a2 w2).mono fun e W' ⟨he, bel⟩ => ?_
  subst he
  exact ⟨_, rfl, _, _, _, [], _, [], hW', trodAll_mk1 (shut_bool Tryd.underlying4 _), (trodAll_cons_mk (Below.trod laidOut (by kernel_rfl) (of_decide_eq_true (by kernel_rfl)) k0 bel lt0) (trodAll_cons_mk (Below.trod laidOut (by kernel_rfl) (of_decide_eq_true (by kernel_rfl)) k1 bel lt1) (trodAll_cons_mk (Below.trod laidOut (by kernel_rfl) (of_decide_eq_true (by kernel_rfl)) k2 bel lt2) trodAll_mk0))), rfl, bel.frame _, fun h => by cases h⟩

theorem over : Rows.AluAllSaid :=
  OpenClaim.holds_of_wide 3 Tryd.f3 rfl rfl rfl rfl rfl rfl rfl ⟨rfl, rfl, rfl, rfl, rfl⟩ rfl rfl rfl rfl rfl (by kernel_rfl) Tryd.func3 (by kernel_rfl)
    (of_decide_eq_true (by kernel_rfl)) (by unfold Func.isWrapper; first | (rw [if_pos (by decide +kernel)]; kernel_rfl) | (rw [if_neg (by decide +kernel)]; exact ⟨rfl, rfl⟩))
    (fun os started H enc _ => lifted os started H enc)

/-- The statement: the card, its listed variable tied to the program's text. -/
theorem proved : Rows.AluAllCardSaid :=
  Claim7.holds_tied_plain_at .later [] [.data] true (true, "f053542d1011ec4d679a08a86226c28570616c134fd3b4b88d7a1209d25f1ea1") false
    over (fun _ h => by cases h) (by kernel_rfl) (fun _ h => by cases h) aluAll_row_tie rfl ⟨rfl, rfl⟩ (by kernel_rfl) rfl
    (fun f fn hf hfn => by
      obtain rfl : f = 3 := Option.some.inj ((show Tryd.prog.funcNamed "suzerain/suzerainlaw07.AluAll" = some 3 by kernel_rfl).symm.trans hf) |>.symm
      obtain rfl : fn = Tryd.f3 := (Option.some.inj (Tryd.func3.symm.trans hfn)).symm
      exact ⟨by kernel_rfl, fun j t ht => by
        rw [Tryd.params3] at ht
        have hm : t ∈ [3, 24, 2] := by simpa using Array.mem_of_getElem? ht
        have hall : ([3, 24, 2].all fun u => !Tryd.prog.wantsStandIn u) = true := by kernel_rfl
        exact (show Tryd.prog.wantsStandIn t = false by simpa using List.all_eq_true.1 hall t hm)⟩)
    (by kernel_rfl)
#print axioms proved

end Go.Proofs.YtmabfocpcbaniaaDoor.aluAll
