/-
  Proved: for any two numbers, the law AmoSwaps returns true: what is swapped in is told back, in the width of the op; what is added, and taken away, leaves what was.
  Conditions: none beyond the statement's own (its listed variable is tied to the program's text).
-/
import Derived.Test.YtaanmebebapbpaaDoorRows
import Derived.Test.YtaanmebebapbpaaDoorCards
import Derived.Test.YtaanmebebapbpaaDoorTie
import Derived.Test.YtaanmebebapbpaaDoorOpen
import Derived.Lib.Hide
import Derived.SevenTiedAt
import Derived.Deep.RegionHeld3
import Derived.Test.YtaanmebebapbpaaDoorAmoDoor
import Derived.Test.YtaanmebebapbpaaDoorAmoLaw
import Derived.Test.YtaanmebebapbpaaDoorAmoX
namespace Go.Proofs.YtaanmebebapbpaaDoor.amoSwaps
open Go Go.ChangeShapes Go.WideShapes Go.ChangeAt Go.RowKit W M D A
set_option linter.unusedVariables false

theorem told_low (b : Int) : toldV 78 (b % 4294967296) = IntKind.u64.wrap (wrap32 b) := by
  rw [toldV, if_pos (by decide +kernel), sextV_cong _ b (by omega), sextV_32]
theorem add_back (a b : Int) (ha : B64 a) (hb : B64 b) : newV 90 (IntKind.u64.wrap (a + b)) (IntKind.u64.wrap (-b)) = a := by
  rw [new_90, sumV, u64_eq, u64_eq, u64_eq]
  unfold B64 at ha hb
  omega
theorem add_small (a b : Int) (ha : B64 a) (hb : B64 b) : newV 79 ((a % 4294967296 + b % 4294967296) % 4294967296) (IntKind.u64.wrap (-b)) = a % 4294967296 := by
  rw [ref_79 _ _ (by unfold B64 at *; omega) (u64_bd _), u64_eq]
  omega
set_option maxRecDepth 100000 in
set_option maxHeartbeats 4000000 in
theorem walk (w : World) (hL : Tbl w) (a0 : Int) (w0 : (Lit.int .u64 a0).wf = true) (a1 : Int) (w1 : (Lit.int .u64 a1).wf = true) :
    Calls Tryd.prog 7 #[.int .u64 a0, .int .u64 a1] w fun e w' => e = .returned (.bool true) ∧ Below w.heap.size w w' := by
  have ha : B64 a0 := bounds_u64 w0
  have hb : B64 a1 := bounds_u64 w1
  clear w0 w1
  have bn : B64 (IntKind.u64.wrap (-a1)) := u64_bd _
  have hl : B64 (a1 % 4294967296) := by unfold B64 at *; omega
  have hs : B64 ((a0 % 4294967296 + a1 % 4294967296) % 4294967296) := by unfold B64 at *; omega
  have hw : B64 (IntKind.u64.wrap (a0 + a1)) := u64_bd _
  have hx : B64 (bits .xor .u64 a0 a1) := xor_bd ha hb
  have c1 := fun W h => New_c 89 a0 a1 (by decide) ha hb W h
  have c2 := fun W h => New_c 78 a0 a1 (by decide) ha hb W h
  have c3 := fun W h => Told_c 78 (a1 % 4294967296) (by decide) hl W h
  have c4 := fun W h => New_c 90 a0 a1 (by decide) ha hb W h
  have c5 := fun W h => New_c 90 (IntKind.u64.wrap (a0 + a1)) (IntKind.u64.wrap (-a1)) (by decide) hw bn W h
  have c6 := fun W h => New_c 79 a0 a1 (by decide) ha hb W h
  have c7 := fun W h => New_c 79 ((a0 % 4294967296 + a1 % 4294967296) % 4294967296) (IntKind.u64.wrap (-a1)) (by decide) hs bn W h
  have c8 := fun W h => New_c 91 a0 a1 (by decide) ha hb W h
  have c9 := fun W h => New_c 91 (bits .xor .u64 a0 a1) a1 (by decide) hx hb W h
  have c10 := fun W h => Told_c 87 a0 (by decide) ha W h
  have c11 := fun W h => New_c 88 a0 a1 (by decide) ha hb W h
  have c12 := fun W h => New_c 87 a0 a1 (by decide) ha hb W h
  rw [ref_89 a0 a1 ha hb] at c1
  rw [ref_78 a0 a1 ha hb] at c2
  rw [told_low] at c3
  rw [ref_90 a0 a1 ha hb] at c4
  rw [add_back a0 a1 ha hb] at c5
  rw [ref_79 a0 a1 ha hb] at c6
  rw [add_small a0 a1 ha hb] at c7
  rw [ref_91 a0 a1 ha hb] at c8
  rw [ref_91 _ a1 hx hb, show bits .xor .u64 (bits .xor .u64 a0 a1) a1 = a0 from xor_xor a0 a1 ha hb] at c9
  rw [show toldV 87 a0 = a0 from by rw [toldV, if_neg (by decide +kernel)]] at c10
  rw [ref_88 a0 a1 ha hb] at c11
  rw [ref_87 a0 a1 ha hb] at c12
  generalize (a0 % 4294967296 + a1 % 4294967296) % 4294967296 = s at *
  generalize bits .xor .u64 a0 a1 = x at *
  have C1 := Lib.hid c1
  have C2 := Lib.hid c2
  have C3 := Lib.hid c3
  have C4 := Lib.hid c4
  have C5 := Lib.hid c5
  have C6 := Lib.hid c6
  have C7 := Lib.hid c7
  have C8 := Lib.hid c8
  have C9 := Lib.hid c9
  have C10 := Lib.hid c10
  have C11 := Lib.hid c11
  have C12 := Lib.hid c12
  clear c1 c2 c3 c4 c5 c6 c7 c8 c9 c10 c11 c12 bn hl hs hw hx
  have hcv : wrap64 (wrap32 a1) = wrap32 a1 := by
    have := w32_bd a1
    rw [w64_def]
    omega
  have L0 := Lib.hid hL
  clear hL
  unfold B64 at ha hb
  go_enter Tryd.func7, Tryd.ntmps7
  go_wp2_with fail
  refine (shown08_c _ L0.out).mono ?_
  rintro e w1 ⟨rfl, g1⟩
  have L1 := Lib.hid (L0.out.grown g1)
  go_wp2_with fail
  refine (C1.out _ L1.out).mono ?_
  rintro e w2 ⟨rfl, g2⟩
  have L2 := Lib.hid (L1.out.grown g2)
  go_wp2_with fail
  refine (C2.out _ L2.out).mono ?_
  rintro e w3 ⟨rfl, g3⟩
  have L3 := Lib.hid (L2.out.grown g3)
  go_wp2_with fail
  refine (C3.out _ L3.out).mono ?_
  rintro e w' ⟨rfl, rfl⟩
  go_wp2_with fail
  refine (C4.out _ L3.out).mono ?_
  rintro e w4 ⟨rfl, g4⟩
  have L4 := Lib.hid (L3.out.grown g4)
  go_wp2_with fail
  refine (C5.out _ L4.out).mono ?_
  rintro e w5 ⟨rfl, g5⟩
  have L5 := Lib.hid (L4.out.grown g5)
  go_wp2_with fail
  refine (C6.out _ L5.out).mono ?_
  rintro e w6 ⟨rfl, g6⟩
  have L6 := Lib.hid (L5.out.grown g6)
  go_wp2_with fail
  refine (C7.out _ L6.out).mono ?_
  rintro e w7 ⟨rfl, g7⟩
  have L7 := Lib.hid (L6.out.grown g7)
  go_wp2_with fail
  refine (C8.out _ L7.out).mono ?_
  rintro e w8 ⟨rfl, g8⟩
  have L8 := Lib.hid (L7.out.grown g8)
  go_wp2_with fail
  refine (C9.out _ L8.out).mono ?_
  rintro e w9 ⟨rfl, g9⟩
  have L9 := Lib.hid (L8.out.grown g9)
  go_wp2_with fail
  refine (C10.out _ L9.out).mono ?_
  rintro e w' ⟨rfl, rfl⟩
  go_wp2_with fail
  refine (C11.out _ L9.out).mono ?_
  rintro e w10 ⟨rfl, g10⟩
  have L10 := Lib.hid (L9.out.grown g10)
  go_wp2_with fail
  refine (C12.out _ L10.out).mono ?_
  rintro e w11 ⟨rfl, g11⟩
  have L11 := Lib.hid (L10.out.grown g11)
  go_wp2_with fail
  go_ret
  exact ⟨rfl, gr_below (gr_trans (gr_trans (gr_trans (gr_trans (gr_trans (gr_trans (gr_trans (gr_trans (gr_trans (gr_trans g1 g2) g3) g4) g5) g6) g7) g8) g9) g10) g11)⟩

theorem own : ownKnob Tryd.prog.godebug = none := by kernel_rfl
theorem laidOut : laidOutB Tryd.prog = true := by kernel_rfl

set_option maxRecDepth 100000 in
theorem lifted (os : Os) (started : os.Started) (H : Type) (enc : TypeId × Value → H) :
    ReturnsInHanded {} Tryd.checked os 7 .any (fun w args => (Rows.amoSwapsSpec.pre enc Tryd.prog Tryd.f7 [] false w args ∧ laidMetH Tryd.prog laidL w) ∧ sizedMet enc Tryd.prog Tryd.f7 (OpenSpec.ofChange Rows.amoSwapsSpec) false w args)
      (Rows.amoSwapsSpec.post enc Tryd.prog Tryd.f7 false true false false) := by
  refine returnsInHanded_of_change_and (C := Tryd.checked) (X := fun w _ => laidMetH Tryd.prog laidL w) (fun _ _ _ hh h => h.of_heap hh) own started (by kernel_rfl) Tryd.func7
    (ChangeSpec.witness_shaped (enc := enc) (C := Tryd.checked) (os := os) (X := fun w _ => laidMetH Tryd.prog laidL w) false (World.doorLaid Tryd.prog 400 os) #[.int .u64 0, .int .u64 0] 8 rfl (World.shaped_of_RefB (by kernel_rfl) (by kernel_rfl)) (by kernel_rfl) (by kernel_rfl) (by kernel_rfl) (door_met os _)) ?_
  intro W base args ds gs before hval0 hW _ _ hL _
  have hval : ∀ (j : Nat) t v, Tryd.f7.params[j]? = some t → args[j]? = some v → Value.okWide Tryd.prog W .any base t v := hval0
  have hW' := hW
  obtain ⟨p, q, hA0, hV, rfl, hfz, hnd⟩ := hW
  have hA : DataW.TrodAll enc Tryd.prog W 0 (fun _ => true) true Tryd.f7.params.toList args.toList ds p := hA0
  rw [Tryd.params7] at hA hval
  obtain ⟨v0, vs0, d0, ds0, p0, q0, hargs, rfl, rfl, h0, r0⟩ := trodAll_cons hA
  obtain ⟨v1, vs1, d1, ds1, p1, q1, rfl, rfl, rfl, h1, r1⟩ := trodAll_cons r0
  obtain ⟨rfl, rfl, rfl⟩ := trodAll_nil r1
  obtain rfl : args = #[v0, v1] := by cases args; simp_all
  obtain ⟨rfl, rfl⟩ := trodVars_none hV
  clear hA0 hval0 hA
  have k0 := h0
  have lt0 : ∀ x ∈ p0, x.block < W.heap.size := by obtain ⟨m, hm⟩ := k0; exact DataW.trod_lt m _ _ _ hm
  obtain ⟨a0, rfl, rfl, rfl, w0⟩ := open_int Tryd.underlying22 (hval 0 22 v0 rfl rfl) h0
  have k1 := h1
  have lt1 : ∀ x ∈ p1, x.block < W.heap.size := by obtain ⟨m, hm⟩ := k1; exact DataW.trod_lt m _ _ _ hm
  obtain ⟨a1, rfl, rfl, rfl, w1⟩ := open_int Tryd.underlying22 (hval 1 22 v1 rfl rfl) h1
  refine (walk W (of_laid hL) a0 w0 a1 w1).mono fun e W' ⟨he, bel⟩ => ?_
  subst he
  exact ⟨_, rfl, _, _, _, [], _, [], hW', trodAll_mk1 (shut_bool Tryd.underlying4 _), (trodAll_cons_mk (Below.trod laidOut (by kernel_rfl) (of_decide_eq_true (by kernel_rfl)) k0 bel lt0) (trodAll_cons_mk (Below.trod laidOut (by kernel_rfl) (of_decide_eq_true (by kernel_rfl)) k1 bel lt1) trodAll_mk0)), rfl, bel.frame _, fun h => by cases h⟩

theorem over : Rows.AmoSwapsSaid :=
  OpenClaim.holds_of_wide 7 Tryd.f7 rfl rfl rfl rfl rfl rfl rfl ⟨rfl, rfl, rfl, rfl, rfl⟩ rfl rfl rfl rfl rfl (by kernel_rfl) Tryd.func7 (by kernel_rfl)
    (of_decide_eq_true (by kernel_rfl)) (by unfold Func.isWrapper; first | (rw [if_pos (by decide +kernel)]; kernel_rfl) | (rw [if_neg (by decide +kernel)]; exact ⟨rfl, rfl⟩))
    (fun os started H enc _ => lifted os started H enc)

/-- The statement: the card, its listed variable tied to the program's text. -/
theorem proved : Rows.AmoSwapsCardSaid :=
  Claim7.holds_tied_plain_at .later [] [.data] true (true, "31207531034b7620e56e914a189728be8f7cc7a00cfb548c6c1a0ec61e101d21") false
    over (fun _ h => by cases h) (by kernel_rfl) (fun _ h => by cases h) amoSwaps_row_tie rfl ⟨rfl, rfl⟩ (by kernel_rfl) rfl
    (fun f fn hf hfn => by
      obtain rfl : f = 7 := Option.some.inj ((show Tryd.prog.funcNamed "suzerain/suzerainlaw08.AmoSwaps" = some 7 by kernel_rfl).symm.trans hf) |>.symm
      obtain rfl : fn = Tryd.f7 := (Option.some.inj (Tryd.func7.symm.trans hfn)).symm
      exact ⟨by kernel_rfl, fun j t ht => by
        rw [Tryd.params7] at ht
        have hm : t ∈ [22, 22] := by simpa using Array.mem_of_getElem? ht
        have hall : ([22, 22].all fun u => !Tryd.prog.wantsStandIn u) = true := by kernel_rfl
        exact (show Tryd.prog.wantsStandIn t = false by simpa using List.all_eq_true.1 hall t hm)⟩)
    (by kernel_rfl)
#print axioms proved

end Go.Proofs.YtaanmebebapbpaaDoor.amoSwaps
