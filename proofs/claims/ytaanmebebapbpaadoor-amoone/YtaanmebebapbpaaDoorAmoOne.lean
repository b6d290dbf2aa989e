/-
  Proved: for any two harts and any two addresses, the law AmoOne returns true: a reservation is taken once, by its hart, in its block; the hart's own store does not end it, another hart's in its block does, and one beside it does not.
  Conditions: none beyond the statement's own (its listed variable is tied to the program's text).
-/
import Derived.Test.YtaanmebebapbpaaDoorRows
import Derived.Test.YtaanmebebapbpaaDoorCards
import Derived.Test.YtaanmebebapbpaaDoorTie
import Derived.Test.YtaanmebebapbpaaDoorOpen
import Derived.Lib.Hide
import Derived.SevenTiedAt
import Derived.Deep.RegionHeld3
import Derived.Test.YtaanmebebapbpaaDoorAmoDoor
import Derived.Test.YtaanmebebapbpaaDoorAmoLaw
import Derived.Test.YtaanmebebapbpaaDoorAmoY
namespace Go.Proofs.YtaanmebebapbpaaDoor.amoOne
open Go Go.ChangeShapes Go.WideShapes Go.ChangeAt Go.RowKit W M D A
set_option linter.unusedVariables false

theorem isH_nat (h : Nat) (hh : h < 8) : isH h = true := (isH_iff h).2 (by omega)
theorem meet_one (a b : Int) (ha : B64 a) (hb : B64 b) : meetV (blk a) b 1 = decide (a / 8 = b / 8) := by
  unfold meetV blk B64 at *
  rw [Bool.eq_iff_iff, Bool.or_eq_true, decide_eq_true_eq, decide_eq_true_eq, decide_eq_true_eq]
  omega
theorem blk_same (a b : Int) : (blk a = blk b) ↔ (a / 8 = b / 8) := by unfold blk; omega
/-- What a hart that set its own, and stored into it, has. -/
theorem own_set (h : Nat) (hh : h < 8) (a : Int) (ha : B64 a) : A.Good (storedS (setS st0 h a) h a 8) ∧ isS (storedS (setS st0 h a) h a 8) h = true ∧ atS (storedS (setS st0 h a) h a 8) h = blk a := by
  have g1 := good0.setS h a ha
  have e : setS st0 h a = st0.set h (blk a, true) := by rw [setS, if_pos (isH_nat h hh), Int.toNat_natCast]
  have i1 : isS (setS st0 h a) h = true := by rw [e, is_set _ _ _ _ _ (by rw [good0.len]; exact hh), if_pos rfl]
  have j1 : atS (setS st0 h a) h = blk a := by rw [e, at_set _ _ _ _ _ (by rw [good0.len]; exact hh), if_pos rfl]
  have i2 := stored_is g1 h a 8 (isH_nat h hh) (by omega) h hh
  rw [i1] at i2
  have i3 : isS (storedS (setS st0 h a) h a 8) h = true := by rw [i2]; simp
  exact ⟨g1.storedS h a 8, i3, (stored_at g1 h a 8 h hh i3).trans j1⟩
theorem took_no {s : St} (g : A.Good s) (h : Nat) (hh : h < 8) (a : Int) : takeS (tookS s h) h a = false := by
  rw [takeS, tookS, if_pos (isH_nat h hh), Int.toNat_natCast, is_set _ _ _ _ _ (by rw [g.len]; exact hh), if_pos rfl]
  simp
theorem take_v {s : St} (h : Nat) (hh : h < 8) (a : Int) : takeS s h a = (isS s h && decide (atS s h = blk a)) := by
  rw [takeS, isH_nat h hh, Int.toNat_natCast, Bool.true_and]
set_option maxRecDepth 100000 in
set_option maxHeartbeats 4000000 in
theorem walk (w : World) (hL : Tbl w) (a0_0 : Int) (w0_0 : (Lit.int .u8 a0_0).wf = true) (a0_1 : Int) (w0_1 : (Lit.int .u8 a0_1).wf = true) (a1 : Int) (w1 : (Lit.int .u64 a1).wf = true) (a2 : Int) (w2 : (Lit.int .u64 a2).wf = true) :
    Calls Tryd.prog 6 #[.agg #[.int .u8 a0_0, .int .u8 a0_1], .int .u64 a1, .int .u64 a2] w fun e w' => e = .returned (.bool true) ∧ Below w.heap.size w w' := by
  have h0 := bounds_u8 w0_0
  have h1 := bounds_u8 w0_1
  have ha : B64 a1 := bounds_u64 w1
  have hb : B64 a2 := bounds_u64 w2
  clear w0_0 w0_1 w1 w2
  obtain ⟨h, hh⟩ : ∃ h : Nat, a0_0 % 8 = h := ⟨(a0_0 % 8).toNat, by omega⟩
  obtain ⟨k, hk⟩ : ∃ k : Nat, a0_1 % 8 = k := ⟨(a0_1 % 8).toNat, by omega⟩
  have h8 : h < 8 := by omega
  have k8 : k < 8 := by omega
  have L0 := Lib.hid (hL.grown (gr_alloc (gr_refl w none) (.cells #[.int .u8 a0_0, .int .u8 a0_1] 52)))
  have Z0 := Lib.hid (gr_alloc (gr_refl w none) (.cells #[.int .u8 a0_0, .int .u8 a0_1] 52))
  have R0 := Lib.hid (Row.fresh w 52 [.int .u8 a0_0, .int .u8 a0_1])
  clear hL
  obtain ⟨G2, I2, J2⟩ := own_set h h8 a1 ha
  have HG2 := Lib.hid G2
  have HI2 := Lib.hid I2
  have HJ2 := Lib.hid J2
  have HA := Lib.hid ha
  have HB := Lib.hid hb
  clear G2 I2 J2
  unfold B64 at ha hb
  go_enter Tryd.func6, Tryd.ntmps6
  go_wp2_with fail
  refine (shown08_c _ L0.out).mono ?_
  rintro e w1 ⟨rfl, g1⟩
  go_wp2_with fail
  refine (Fresh_c _).mono ?_
  rintro e w2 ⟨rfl, hR2, g2⟩
  have R2 := (R0.out.grown g1 (by simp)).grown g2 (by simp)
  have c0 := R2.cell 0
  have c1 := R2.cell 1
  simp only [List.getElem?_cons_zero, List.getElem?_cons_succ] at c0 c1
  have Z2 := Lib.hid (gr_trans (gr_trans Z0.out g1) g2)
  have hp : w.heap.size ≤ w1.heap.size := (gr_trans Z0.out g1).size
  generalize w1.heap.size = p at *
  clear g1 g2 R2 R0 L0 Z0
  go_wp2_with fail
  refine (Set_c _ _ h a1 (by omega) HA.out _ hR2).mono ?_
  rintro e w3 ⟨rfl, hR3, g3⟩
  go_wp2_with fail
  refine (Stored_c _ _ h a1 8 (by omega) HA.out (by decide) _ hR3).mono ?_
  rintro e w4 ⟨rfl, hR4, g4⟩
  have Z4 := Lib.hid (gr_row (gr_trans (gr_trans (gr_none Z2.out (some p)) g3) g4) hp)
  generalize storedS (setS st0 h a1) h a1 8 = s2 at *
  clear g3 g4 hR3 hR2 Z2 c0 c1
  have hq : a1 / 8 * 8 = blk a1 := by unfold blk; omega
  have hp4 : Hid (w.heap.size ≤ p) := Lib.hid hp
  clear hp
  by_cases hkh : k = h
  · subst hkh
    have HT1 : Hid (takeS s2 k a2 = decide (a1 / 8 = a2 / 8)) := Lib.hid (by rw [take_v k k8, HI2.out, HJ2.out, Bool.true_and]; exact decide_eq_decide.2 (blk_same a1 a2))
    have HT2 := Lib.hid (took_no HG2.out k k8 a1)
    have HH := Has_c p s2 k (by omega) w4 hR4
    rw [if_pos (isH_nat k k8), isH_nat k k8, Int.toNat_natCast, HI2.out, HJ2.out, Bool.true_and] at HH
    have HHH := Lib.hid HH
    clear HH
    generalize hsame : decide (a1 / 8 = a2 / 8) = same at *
    have hs2 : (a1 / 8 == a2 / 8) = same := hsame
    clear hsame
    go_wp2_with fail
    refine HHH.out.mono ?_
    rintro e w5 ⟨rfl, g5⟩
    go_wp2_with fail
    refine (Take_c p s2 k a2 (by omega) HB.out _ (hR4.kept g5)).mono ?_
    rw [HT1.out]
    rintro e w6 ⟨rfl, hR6, g6⟩
    go_wp2_with fail
    refine (Take_c p _ k a1 (by omega) HA.out _ hR6).mono ?_
    rw [HT2.out]
    rintro e w7 ⟨rfl, hR7, g7⟩
    have Z7 := Lib.hid (gr_row (gr_trans (gr_trans (gr_none (gr_trans Z4.out g5) (some p)) g6) g7) hp4.out)
    cases same
    all_goals
      go_wp2_with fail
      go_ret
      exact ⟨rfl, gr_below Z7.out⟩
  · have dk : ((k : Int) != h) = true := by simp; omega
    have i3 := stored_is HG2.out k a2 1 (isH_nat k k8) (by omega) h h8
    rw [HI2.out, HJ2.out, meet_one a1 a2 HA.out HB.out, show decide ((h : Int) ≠ k) = true from by simp; omega, Bool.true_and, Bool.true_and] at i3
    have j3 : isS (storedS s2 k a2 1) h = true → atS (storedS s2 k a2 1) h = blk a1 := fun x => (stored_at HG2.out k a2 1 h h8 x).trans HJ2.out
    have g3 := HG2.out.storedS k a2 1
    have n3 : isS (storedS s2 k a2 1) h = false → atS (storedS s2 k a2 1) h = 0 := g3.no h
    have HT2 := Lib.hid (took_no g3 h h8 a1)
    have T1 : takeS (storedS s2 k a2 1) h a2 = false := by
      rw [take_v h h8, i3]
      by_cases e : a1 / 8 = a2 / 8
      · simp [e]
      · rw [j3 (by rw [i3]; simp [e])]
        simp only [Bool.and_eq_false_iff, decide_eq_false_iff_not]
        exact Or.inr (fun x => e ((blk_same a1 a2).1 x))
    have HT1 := Lib.hid T1
    go_wp2_with fail
    refine (Stored_c p s2 k a2 1 (by omega) HB.out (by decide) _ hR4).mono ?_
    rintro e w5 ⟨rfl, hR5, g5⟩
    have HH := Has_c p _ h (by omega) w5 hR5
    rw [if_pos (isH_nat h h8), isH_nat h h8, Int.toNat_natCast, i3, Bool.true_and] at HH
    by_cases hs : a1 / 8 = a2 / 8
    · have d1 : decide (a1 / 8 = a2 / 8) = true := decide_eq_true hs
      have d2 : (a1 / 8 == a2 / 8) = true := by simpa using hs
      rw [d1] at i3 HH
      rw [n3 i3] at HH
      have HHH := Lib.hid HH
      clear HH i3 j3 n3 T1 hs g3 d1
      go_wp2_with fail
      refine HHH.out.mono ?_
      rintro e w6 ⟨rfl, g6⟩
      go_wp2_with fail
      refine (Take_c p _ h a2 (by omega) HB.out _ (hR5.kept g6)).mono ?_
      rw [HT1.out]
      rintro e w7 ⟨rfl, hR7, g7⟩
      go_wp2_with fail
      refine (Take_c p _ h a1 (by omega) HA.out _ hR7).mono ?_
      rw [HT2.out]
      rintro e w8 ⟨rfl, hR8, g8⟩
      have Z8 := Lib.hid (gr_row (gr_trans (gr_trans (gr_trans (gr_trans (gr_none Z4.out (some p)) g5) (gr_none g6 _)) g7) g8) hp4.out)
      go_wp2_with fail
      go_ret
      exact ⟨rfl, gr_below Z8.out⟩
    · have d1 : decide (a1 / 8 = a2 / 8) = false := decide_eq_false hs
      have d2 : (a1 / 8 == a2 / 8) = false := by simpa using hs
      rw [d1] at i3 HH
      rw [j3 i3] at HH
      have HHH := Lib.hid HH
      clear HH i3 j3 n3 T1 hs g3 d1
      go_wp2_with fail
      refine HHH.out.mono ?_
      rintro e w6 ⟨rfl, g6⟩
      go_wp2_with fail
      refine (Take_c p _ h a2 (by omega) HB.out _ (hR5.kept g6)).mono ?_
      rw [HT1.out]
      rintro e w7 ⟨rfl, hR7, g7⟩
      go_wp2_with fail
      refine (Take_c p _ h a1 (by omega) HA.out _ hR7).mono ?_
      rw [HT2.out]
      rintro e w8 ⟨rfl, hR8, g8⟩
      have Z8 := Lib.hid (gr_row (gr_trans (gr_trans (gr_trans (gr_trans (gr_none Z4.out (some p)) g5) (gr_none g6 _)) g7) g8) hp4.out)
      go_wp2_with fail
      go_ret
      exact ⟨rfl, gr_below Z8.out⟩

theorem own : ownKnob Tryd.prog.godebug = none := by kernel_rfl
theorem laidOut : laidOutB Tryd.prog = true := by kernel_rfl

set_option maxRecDepth 100000 in
theorem lifted (os : Os) (started : os.Started) (H : Type) (enc : TypeId × Value → H) :
    ReturnsInHanded {} Tryd.checked os 6 .any (fun w args => (Rows.amoOneSpec.pre enc Tryd.prog Tryd.f6 [] false w args ∧ laidMetH Tryd.prog laidL w) ∧ sizedMet enc Tryd.prog Tryd.f6 (OpenSpec.ofChange Rows.amoOneSpec) false w args)
      (Rows.amoOneSpec.post enc Tryd.prog Tryd.f6 false true false false) := by
  refine returnsInHanded_of_change_and (C := Tryd.checked) (X := fun w _ => laidMetH Tryd.prog laidL w) (fun _ _ _ hh h => h.of_heap hh) own started (by kernel_rfl) Tryd.func6
    (ChangeSpec.witness_shaped (enc := enc) (C := Tryd.checked) (os := os) (X := fun w _ => laidMetH Tryd.prog laidL w) false (World.doorLaid Tryd.prog 400 os) #[.agg #[.int .u8 0, .int .u8 0], .int .u64 0, .int .u64 0] 8 rfl (World.shaped_of_RefB (by kernel_rfl) (by kernel_rfl)) (by kernel_rfl) (by kernel_rfl) (by kernel_rfl) (door_met os _)) ?_
  intro W base args ds gs before hval0 hW _ _ hL _
  have hval : ∀ (j : Nat) t v, Tryd.f6.params[j]? = some t → args[j]? = some v → Value.okWide Tryd.prog W .any base t v := hval0
  have hW' := hW
  obtain ⟨p, q, hA0, hV, rfl, hfz, hnd⟩ := hW
  have hA : DataW.TrodAll enc Tryd.prog W 0 (fun _ => true) true Tryd.f6.params.toList args.toList ds p := hA0
  rw [Tryd.params6] at hA hval
  obtain ⟨v0, vs0, d0, ds0, p0, q0, hargs, rfl, rfl, h0, r0⟩ := trodAll_cons hA
  obtain ⟨v1, vs1, d1, ds1, p1, q1, rfl, rfl, rfl, h1, r1⟩ := trodAll_cons r0
  obtain ⟨v2, vs2, d2, ds2, p2, q2, rfl, rfl, rfl, h2, r2⟩ := trodAll_cons r1
  obtain ⟨rfl, rfl, rfl⟩ := trodAll_nil r2
  obtain rfl : args = #[v0, v1, v2] := by cases args; simp_all
  obtain ⟨rfl, rfl⟩ := trodVars_none hV
  clear hA0 hval0 hA
  have k0 := h0
  have lt0 : ∀ x ∈ p0, x.block < W.heap.size := by obtain ⟨m, hm⟩ := k0; exact DataW.trod_lt m _ _ _ hm
  obtain ⟨xs0, rfl, l0, w0⟩ := Op.open_arr_int Tryd.underlying52 Tryd.underlying5 (by kernel_rfl) (by kernel_rfl) (hval 0 52 v0 rfl rfl) h0
  obtain _ | ⟨a0_0, xs0⟩ := xs0
  · simp at l0
  obtain _ | ⟨a0_1, xs0⟩ := xs0
  · simp at l0
  obtain _ | ⟨_, _⟩ := xs0
  rotate_left
  · simp at l0
  clear h0
  simp only [List.map_cons, List.map_nil] at *
  have w0_0 := w0 a0_0 (by simp)
  have w0_1 := w0 a0_1 (by simp)
  have k1 := h1
  have lt1 : ∀ x ∈ p1, x.block < W.heap.size := by obtain ⟨m, hm⟩ := k1; exact DataW.trod_lt m _ _ _ hm
  obtain ⟨a1, rfl, rfl, rfl, w1⟩ := open_int Tryd.underlying22 (hval 1 22 v1 rfl rfl) h1
  have k2 := h2
  have lt2 : ∀ x ∈ p2, x.block < W.heap.size := by obtain ⟨m, hm⟩ := k2; exact DataW.trod_lt m _ _ _ hm
  obtain ⟨a2, rfl, rfl, rfl, w2⟩ := open_int Tryd.underlying22 (hval 2 22 v2 rfl rfl) h2
  refine (walk W (of_laid hL) a0_0 w0_0 a0_1 w0_1 a1 w1 a2 w2).mono fun e W' ⟨he, bel⟩ => ?_
  subst he
  exact ⟨_, rfl, _, _, _, [], _, [], hW', trodAll_mk1 (shut_bool Tryd.underlying4 _), (trodAll_cons_mk (Below.trod laidOut (by kernel_rfl) (of_decide_eq_true (by kernel_rfl)) k0 bel lt0) (trodAll_cons_mk (Below.trod laidOut (by kernel_rfl) (of_decide_eq_true (by kernel_rfl)) k1 bel lt1) (trodAll_cons_mk (Below.trod laidOut (by kernel_rfl) (of_decide_eq_true (by kernel_rfl)) k2 bel lt2) trodAll_mk0))), rfl, bel.frame _, fun h => by cases h⟩

theorem over : Rows.AmoOneSaid :=
  OpenClaim.holds_of_wide 6 Tryd.f6 rfl rfl rfl rfl rfl rfl rfl ⟨rfl, rfl, rfl, rfl, rfl⟩ rfl rfl rfl rfl rfl (by kernel_rfl) Tryd.func6 (by kernel_rfl)
    (of_decide_eq_true (by kernel_rfl)) (by unfold Func.isWrapper; first | (rw [if_pos (by decide +kernel)]; kernel_rfl) | (rw [if_neg (by decide +kernel)]; exact ⟨rfl, rfl⟩))
    (fun os started H enc _ => lifted os started H enc)

/-- The statement: the card, its listed variable tied to the program's text. -/
theorem proved : Rows.AmoOneCardSaid :=
  Claim7.holds_tied_plain_at .later [] [.data] true (true, "31207531034b7620e56e914a189728be8f7cc7a00cfb548c6c1a0ec61e101d21") false
    over (fun _ h => by cases h) (by kernel_rfl) (fun _ h => by cases h) amoOne_row_tie rfl ⟨rfl, rfl⟩ (by kernel_rfl) rfl
    (fun f fn hf hfn => by
      obtain rfl : f = 6 := Option.some.inj ((show Tryd.prog.funcNamed "suzerain/suzerainlaw08.AmoOne" = some 6 by kernel_rfl).symm.trans hf) |>.symm
      obtain rfl : fn = Tryd.f6 := (Option.some.inj (Tryd.func6.symm.trans hfn)).symm
      exact ⟨by kernel_rfl, fun j t ht => by
        rw [Tryd.params6] at ht
        have hm : t ∈ [52, 22, 22] := by simpa using Array.mem_of_getElem? ht
        have hall : ([52, 22, 22].all fun u => !Tryd.prog.wantsStandIn u) = true := by kernel_rfl
        exact (show Tryd.prog.wantsStandIn t = false by simpa using List.all_eq_true.1 hall t hm)⟩)
    (by kernel_rfl)
#print axioms proved

end Go.Proofs.YtaanmebebapbpaaDoor.amoOne
