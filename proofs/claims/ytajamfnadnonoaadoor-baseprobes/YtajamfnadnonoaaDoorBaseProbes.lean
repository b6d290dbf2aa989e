/-
  Proved: for any number and any two errors, the law BaseProbes returns true: each extension that there is is told as there, once, and no other one; unlike errors have unlike names.
  Conditions: none beyond the statement's own (its listed variable is tied to the program's text).
-/
import Derived.Test.YtajamfnadnonoaaDoorRows
import Derived.Test.YtajamfnadnonoaaDoorCards
import Derived.Test.YtajamfnadnonoaaDoorTie
import Derived.Test.YtajamfnadnonoaaDoorLayO
import Derived.Lib.Hide
import Derived.SevenTiedAt
import Derived.Test.YtajamfnadnonoaaDoorBaseDoor
import Derived.Test.YtajamfnadnonoaaDoorBaseP
import Derived.Deep.Cut
namespace Go.Proofs.YtajamfnadnonoaaDoor.baseProbes
open Go Go.ChangeShapes Go.WideShapes Go.ChangeAt Go.RowKit M Bs
set_option linter.unusedVariables false
set_option linter.unusedSimpArgs false

theorem Nms.grown {w w' : World} (h : Nms w) (hg : w.grownBy w' none) : Nms w' := h.turn fun i hi => by
  have hc := h i hi
  exact (gr_below hg).cell (by
    rcases Nat.lt_or_ge 0 w.heap.size with hl | hl
    · exact hl
    · rw [World.cell?] at hc
      simp [Array.getElem?_eq_none hl] at hc)
set_option maxRecDepth 100000 in
set_option maxHeartbeats 4000000 in
theorem walk (w : World) (hL : Nms w) (a0 : Int) (w0 : (Lit.int .u64 a0).wf = true) (a1_0 : Int) (w1_0 : (Lit.int .i64 a1_0).wf = true) (a1_1 : Int) (w1_1 : (Lit.int .i64 a1_1).wf = true) :
    Calls Tryd.prog 4 #[.int .u64 a0, .agg #[.int .i64 a1_0, .int .i64 a1_1]] w fun e w' => e = .returned (.bool true) ∧ Below w.heap.size w w' := by
  have h0 := bounds_u64 w0
  have h1 := bounds_i64 w1_0
  have h2 := bounds_i64 w1_1
  clear w0 w1_0 w1_1
  have C0 := Lib.hid (fun W => Call_c 3 a0 (by omega) h0 W)
  have K0 := Lib.hid (fun W => Known_c a0 h0 W)
  have N0 := Lib.hid (fun W h => Name_c a1_0 h1 W h)
  have N1 := Lib.hid (fun W h => Name_c a1_1 h2 W h)
  rw [call_three] at C0
  have HL := Lib.hid hL
  clear hL
  go_enter Tryd.func4, Tryd.ntmps4
  go_upto_region 1 with (fail)
  have hr := Row.fresh w 31 [.int .i64 a1_0, .int .i64 a1_1]
  have hg := gr_alloc (gr_refl w none) (.cells #[.int .i64 a1_0, .int .i64 a1_1] 31)
  generalize w.alloc (.cells #[.int .i64 a1_0, .int .i64 a1_1] 31) = V at *
  generalize w.heap.size = g at *
  have HR := Lib.hid (And.intro hr hg)
  clear hr hg
  go_wp2_with fail
  refine (shown17_c _).mono ?_
  rintro e1 w1 ⟨rfl, hG⟩
  have HR1 := Lib.hid (And.intro (HR.out.1.grown hG (by simp)) (gr_trans HR.out.2 hG))
  clear hG HR
  go_wp2_with fail
  refine (Exts_c _).mono ?_
  rintro e1 w2 ⟨p, rfl, hr, hG⟩
  have HR2 := Lib.hid (And.intro (HR1.out.1.grown hG (by simp)) (gr_trans HR1.out.2 hG))
  have HP := Lib.hid hr
  clear hG HR1 hr
  go_wp2_with fail
  go_loopw [7, 8, 9, 10] (fun x y _ _ wr => ∃ i : Nat, y = .int .i64 i ∧ i ≤ 8 ∧ x = .int .i64 (timesV a0 i) ∧ w2.grownBy wr none) (fun _ y _ _ _ => 8 - (intOf y).toNat)
  case atStart => exact ⟨0, rfl, Nat.zero_le _, rfl, gr_refl _ _⟩
  case round =>
    obtain ⟨i, rfl, hi, rfl, hg⟩ := hrel
    have HT := Lib.hid (times_le a0 i hi)
    by_cases hlt : i < 8
    · have HS := Lib.hid (times_take (x := a0) hlt)
      have hb := exts_bd hlt
      have hkn := known_i hlt
      have hcell := all_at hlt
      generalize exts.getD i 0 = c at *
      have CC := Lib.hid (fun W => Call_c 3 c (by omega) (show 0 ≤ c ∧ c ≤ 18446744073709551615 by omega) W)
      have KK := Lib.hid (fun W => Known_c c (show 0 ≤ c ∧ c ≤ 18446744073709551615 by omega) W)
      rw [call_three, hkn] at CC
      rw [hkn] at KK
      rw [show oneV true = 1 from rfl] at CC
      clear hkn
      have HPw := Lib.hid (HP.out.grown hg (by simp))
      have k0 : wr.cell? ⟨p, i, none⟩ = some (.int .u64 c) := by rw [HPw.out.cell]; exact hcell
      have lt0 := HPw.out.lt
      have HG := Lib.hid hg
      have HC := Lib.hid hcell
      clear hg hcell
      have ht := HT.out
      generalize timesV a0 i = t at *
      go_wp2_with fail
      refine (CC.out _).mono ?_
      rintro e1 w3 ⟨rfl, hG⟩
      clear k0 lt0
      have HPx := Lib.hid (HPw.out.grown hG (by simp))
      have k0 : w3.cell? ⟨p, i, none⟩ = some (.int .u64 c) := by rw [HPx.out.cell]; exact HC.out
      have lt0 := HPx.out.lt
      have HG1 := Lib.hid (gr_trans HG.out hG)
      clear hG HG HPw
      go_wp2_with fail
      refine (KK.out _).mono ?_
      rintro e1 w4 ⟨rfl, hG⟩
      clear k0 lt0
      have HPy := Lib.hid (HPx.out.grown hG (by simp))
      have k0 : w4.cell? ⟨p, i, none⟩ = some (.int .u64 c) := by rw [HPy.out.cell]; exact HC.out
      have lt0 := HPy.out.lt
      have HG2 := Lib.hid (gr_trans HG1.out hG)
      clear hG HG1 HPx
      by_cases hce : c = a0
      · have HS2 := Lib.hid (show timesV a0 (i + 1) = t + 1 by rw [HS.out, if_pos hce])
        have cc : (c == a0) = true := by simpa using hce
        clear HS hce
        go_wp2_with fail
        go_roundw
        case rel => exact ⟨i + 1, by go_num, by omega, by rw [HS2.out]; go_num, HG2.out⟩
        case measure => simp [intOf]; omega
      · have HS2 := Lib.hid (show timesV a0 (i + 1) = t by rw [HS.out, if_neg hce]; rfl)
        have cc : (c == a0) = false := by simpa using hce
        clear HS hce
        go_wp2_with fail
        go_roundw
        case rel => exact ⟨i + 1, by go_num, by omega, by rw [HS2.out], HG2.out⟩
        case measure => simp [intOf]; omega
    · obtain rfl : i = 8 := by omega
      have hta := times_all a0
      have HRw := Lib.hid (And.intro (HR2.out.1.grown hg (by simp)) (gr_trans HR2.out.2 hg))
      clear hg HR2 HP hlt
      have CS : ∃ t o : Int, (timesV a0 8 : Int) = t ∧ oneV (knownV a0) = o ∧ ((knownV a0 = true ∧ t = 1 ∧ o = 1) ∨ (knownV a0 = false ∧ t = 0 ∧ o = 0)) := by
        cases hk : knownV a0
        · exact ⟨_, _, rfl, rfl, Or.inr ⟨rfl, by rw [hta, hk]; rfl, rfl⟩⟩
        · exact ⟨_, _, rfl, rfl, Or.inl ⟨rfl, by rw [hta, hk]; rfl, rfl⟩⟩
      clear hta HT
      obtain ⟨t, o, et, eo, hto⟩ := CS
      rw [et]
      rw [eo] at C0
      clear et eo
      have HTO := Lib.hid hto
      clear hto hi
      generalize knownV a0 = kn at *
      have NE := Lib.hid (name_none (n := a1_0))
      have NS := Lib.hid (fun h => name_same (a := a1_0) (b := a1_1) h)
      generalize nameV a1_0 = s1 at *
      generalize nameV a1_1 = s2 at *
      go_wp2_with fail
      refine (C0.out _).mono ?_
      rintro e1 w3 ⟨rfl, hG⟩
      have HRx := Lib.hid (And.intro (HRw.out.1.grown hG (by simp)) (gr_trans HRw.out.2 hG))
      have k0 : w3.cell? ⟨g, 0, none⟩ = some (.int .i64 a1_0) := HRx.out.1.cell 0
      have k1 : w3.cell? ⟨g, 1, none⟩ = some (.int .i64 a1_1) := HRx.out.1.cell 1
      have lt0 := HRx.out.1.lt
      clear hG HRw C0
      go_wp2_with fail
      refine (N0.out _ (Nms.grown HL.out HRx.out.2)).mono ?_
      rintro e1 w4 ⟨rfl, rfl⟩
      go_wp2_with fail
      refine (N1.out _ (Nms.grown HL.out HRx.out.2)).mono ?_
      rintro e1 w4 ⟨rfl, rfl⟩
      clear N0 N1
      rcases HTO.out with ⟨rfl, rfl, rfl⟩ | ⟨rfl, rfl, rfl⟩
      · clear HTO
        by_cases hn : a1_0 ≤ 0
        · by_cases hn2 : -8 ≤ a1_0
          · have NSx := NS.out ⟨hn, hn2⟩
            have NEx : s1 ≠ ⟨#[]⟩ := fun h => NE.out.1 h ⟨hn, hn2⟩
            have e1 : s1.toList ≠ [] := fun h => NEx (toList_nil.1 h)
            have e2 : s1.toList.isEmpty = false := by cases h : s1.toList with | nil => exact absurd h e1 | cons a b => rfl
            clear NEx NS NE
            by_cases hs : a1_0 = a1_1
            · have hss := NSx.2 hs
              clear NSx
              subst hss
              subst hs
              go_wp2_with fail
              refine (K0.out _).mono ?_
              rintro e1 w4 ⟨rfl, hG⟩
              have HRy := Lib.hid (And.intro (HRx.out.1.grown hG (by simp)) (gr_trans HRx.out.2 hG))
              clear k0 k1 lt0
              have k0 : w4.cell? ⟨g, 0, none⟩ = some (.int .i64 a1_0) := HRy.out.1.cell 0
              have k1 : w4.cell? ⟨g, 1, none⟩ = some (.int .i64 a1_0) := HRy.out.1.cell 1
              have lt0 := HRy.out.1.lt
              clear hG HRx
              go_wp2_with fail
              go_ret
              exact ⟨rfl, gr_below HRy.out.2⟩
            · have e3 : (s1.toList == s2.toList) = false := beq_eq_false_iff_ne.2 (fun h => hs (NSx.1 (toList_same.1 h)))
              have e4 : (a1_0 == a1_1) = false := beq_eq_false_iff_ne.2 hs
              clear NSx hs
              go_wp2_with fail
              refine (K0.out _).mono ?_
              rintro e1 w4 ⟨rfl, hG⟩
              have HRy := Lib.hid (And.intro (HRx.out.1.grown hG (by simp)) (gr_trans HRx.out.2 hG))
              clear k0 k1 lt0
              have k0 : w4.cell? ⟨g, 0, none⟩ = some (.int .i64 a1_0) := HRy.out.1.cell 0
              have k1 : w4.cell? ⟨g, 1, none⟩ = some (.int .i64 a1_1) := HRy.out.1.cell 1
              have lt0 := HRy.out.1.lt
              clear hG HRx
              go_wp2_with fail
              go_ret
              exact ⟨rfl, gr_below HRy.out.2⟩
          · have hs := NE.out.2 (fun h => hn2 h.2)
            have dn : decide (-8 ≤ a1_0) = false := decide_eq_false hn2
            clear NE NS
            subst hs
            go_wp2_with fail
            refine (K0.out _).mono ?_
            rintro e1 w4 ⟨rfl, hG⟩
            have HRy := Lib.hid (And.intro (HRx.out.1.grown hG (by simp)) (gr_trans HRx.out.2 hG))
            clear k0 k1 lt0
            have k0 : w4.cell? ⟨g, 0, none⟩ = some (.int .i64 a1_0) := HRy.out.1.cell 0
            have k1 : w4.cell? ⟨g, 1, none⟩ = some (.int .i64 a1_1) := HRy.out.1.cell 1
            have lt0 := HRy.out.1.lt
            clear hG HRx
            go_wp2_with fail
            go_ret
            exact ⟨rfl, gr_below HRy.out.2⟩
        · have hs := NE.out.2 (fun h => hn h.1)
          clear NE NS
          subst hs
          go_wp2_with fail
          refine (K0.out _).mono ?_
          rintro e1 w4 ⟨rfl, hG⟩
          have HRy := Lib.hid (And.intro (HRx.out.1.grown hG (by simp)) (gr_trans HRx.out.2 hG))
          clear k0 k1 lt0
          have k0 : w4.cell? ⟨g, 0, none⟩ = some (.int .i64 a1_0) := HRy.out.1.cell 0
          have k1 : w4.cell? ⟨g, 1, none⟩ = some (.int .i64 a1_1) := HRy.out.1.cell 1
          have lt0 := HRy.out.1.lt
          clear hG HRx
          go_wp2_with fail
          go_ret
          exact ⟨rfl, gr_below HRy.out.2⟩
      · clear HTO
        by_cases hn : a1_0 ≤ 0
        · by_cases hn2 : -8 ≤ a1_0
          · have NSx := NS.out ⟨hn, hn2⟩
            have NEx : s1 ≠ ⟨#[]⟩ := fun h => NE.out.1 h ⟨hn, hn2⟩
            have e1 : s1.toList ≠ [] := fun h => NEx (toList_nil.1 h)
            have e2 : s1.toList.isEmpty = false := by cases h : s1.toList with | nil => exact absurd h e1 | cons a b => rfl
            clear NEx NS NE
            by_cases hs : a1_0 = a1_1
            · have hss := NSx.2 hs
              clear NSx
              subst hss
              subst hs
              go_wp2_with fail
              refine (K0.out _).mono ?_
              rintro e1 w4 ⟨rfl, hG⟩
              have HRy := Lib.hid (And.intro (HRx.out.1.grown hG (by simp)) (gr_trans HRx.out.2 hG))
              clear k0 k1 lt0
              have k0 : w4.cell? ⟨g, 0, none⟩ = some (.int .i64 a1_0) := HRy.out.1.cell 0
              have k1 : w4.cell? ⟨g, 1, none⟩ = some (.int .i64 a1_0) := HRy.out.1.cell 1
              have lt0 := HRy.out.1.lt
              clear hG HRx
              go_wp2_with fail
              go_ret
              exact ⟨rfl, gr_below HRy.out.2⟩
            · have e3 : (s1.toList == s2.toList) = false := beq_eq_false_iff_ne.2 (fun h => hs (NSx.1 (toList_same.1 h)))
              have e4 : (a1_0 == a1_1) = false := beq_eq_false_iff_ne.2 hs
              clear NSx hs
              go_wp2_with fail
              refine (K0.out _).mono ?_
              rintro e1 w4 ⟨rfl, hG⟩
              have HRy := Lib.hid (And.intro (HRx.out.1.grown hG (by simp)) (gr_trans HRx.out.2 hG))
              clear k0 k1 lt0
              have k0 : w4.cell? ⟨g, 0, none⟩ = some (.int .i64 a1_0) := HRy.out.1.cell 0
              have k1 : w4.cell? ⟨g, 1, none⟩ = some (.int .i64 a1_1) := HRy.out.1.cell 1
              have lt0 := HRy.out.1.lt
              clear hG HRx
              go_wp2_with fail
              go_ret
              exact ⟨rfl, gr_below HRy.out.2⟩
          · have hs := NE.out.2 (fun h => hn2 h.2)
            have dn : decide (-8 ≤ a1_0) = false := decide_eq_false hn2
            clear NE NS
            subst hs
            go_wp2_with fail
            refine (K0.out _).mono ?_
            rintro e1 w4 ⟨rfl, hG⟩
            have HRy := Lib.hid (And.intro (HRx.out.1.grown hG (by simp)) (gr_trans HRx.out.2 hG))
            clear k0 k1 lt0
            have k0 : w4.cell? ⟨g, 0, none⟩ = some (.int .i64 a1_0) := HRy.out.1.cell 0
            have k1 : w4.cell? ⟨g, 1, none⟩ = some (.int .i64 a1_1) := HRy.out.1.cell 1
            have lt0 := HRy.out.1.lt
            clear hG HRx
            go_wp2_with fail
            go_ret
            exact ⟨rfl, gr_below HRy.out.2⟩
        · have hs := NE.out.2 (fun h => hn h.1)
          clear NE NS
          subst hs
          go_wp2_with fail
          refine (K0.out _).mono ?_
          rintro e1 w4 ⟨rfl, hG⟩
          have HRy := Lib.hid (And.intro (HRx.out.1.grown hG (by simp)) (gr_trans HRx.out.2 hG))
          clear k0 k1 lt0
          have k0 : w4.cell? ⟨g, 0, none⟩ = some (.int .i64 a1_0) := HRy.out.1.cell 0
          have k1 : w4.cell? ⟨g, 1, none⟩ = some (.int .i64 a1_1) := HRy.out.1.cell 1
          have lt0 := HRy.out.1.lt
          clear hG HRx
          go_wp2_with fail
          go_ret
          exact ⟨rfl, gr_below HRy.out.2⟩

theorem own : ownKnob Tryd.prog.godebug = none := by kernel_rfl
theorem laidOut : laidOutB Tryd.prog = true := by kernel_rfl

set_option maxRecDepth 100000 in
theorem lifted (os : Os) (started : os.Started) (H : Type) (enc : TypeId × Value → H) :
    ReturnsInHanded {} Tryd.checked os 4 .any (fun w args => (Rows.baseProbesSpec.pre enc Tryd.prog Tryd.f4 [] false w args ∧ laidMetH Tryd.prog laidL w) ∧ sizedMet enc Tryd.prog Tryd.f4 (OpenSpec.ofChange Rows.baseProbesSpec) false w args)
      (Rows.baseProbesSpec.post enc Tryd.prog Tryd.f4 false true false false) := by
  refine returnsInHanded_of_change_and (C := Tryd.checked) (X := fun w _ => laidMetH Tryd.prog laidL w) (fun _ _ _ hh h => h.of_heap hh) own started (by kernel_rfl) Tryd.func4
    (ChangeSpec.witness_shaped (enc := enc) (C := Tryd.checked) (os := os) (X := fun w _ => laidMetH Tryd.prog laidL w) false (World.doorLaid Tryd.prog 400 os) #[.int .u64 0, .agg #[.int .i64 0, .int .i64 0]] 8 rfl (World.shaped_of_RefB (by kernel_rfl) (by kernel_rfl)) (by kernel_rfl) (by kernel_rfl) (by kernel_rfl) (door_met os _)) ?_
  intro W base args ds gs before hval0 hW _ _ hL _
  have hval : ∀ (j : Nat) t v, Tryd.f4.params[j]? = some t → args[j]? = some v → Value.okWide Tryd.prog W .any base t v := hval0
  have hW' := hW
  obtain ⟨p, q, hA0, hV, rfl, hfz, hnd⟩ := hW
  have hA : DataW.TrodAll enc Tryd.prog W 0 (fun _ => true) true Tryd.f4.params.toList args.toList ds p := hA0
  rw [Tryd.params4] at hA hval
  obtain ⟨v0, vs0, d0, ds0, p0, q0, hargs, rfl, rfl, h0, r0⟩ := trodAll_cons hA
  obtain ⟨v1, vs1, d1, ds1, p1, q1, rfl, rfl, rfl, h1, r1⟩ := trodAll_cons r0
  obtain ⟨rfl, rfl, rfl⟩ := trodAll_nil r1
  obtain rfl : args = #[v0, v1] := by cases args; simp_all
  obtain ⟨rfl, rfl⟩ := trodVars_none hV
  clear hA0 hval0 hA
  have k0 := h0
  have lt0 : ∀ x ∈ p0, x.block < W.heap.size := by obtain ⟨m, hm⟩ := k0; exact DataW.trod_lt m _ _ _ hm
  obtain ⟨a0, rfl, rfl, rfl, w0⟩ := open_int Tryd.underlying22 (hval 0 22 v0 rfl rfl) h0
  have k1 := h1
  have lt1 : ∀ x ∈ p1, x.block < W.heap.size := by obtain ⟨m, hm⟩ := k1; exact DataW.trod_lt m _ _ _ hm
  obtain ⟨xs1, rfl, l1, w1⟩ := Op.open_arr_int Tryd.underlying31 Tryd.underlying3 (by kernel_rfl) (by kernel_rfl) (hval 1 31 v1 rfl rfl) h1
  obtain _ | ⟨a1_0, xs1⟩ := xs1
  · simp at l1
  obtain _ | ⟨a1_1, xs1⟩ := xs1
  · simp at l1
  obtain _ | ⟨_, _⟩ := xs1
  rotate_left
  · simp at l1
  clear h1
  simp only [List.map_cons, List.map_nil] at *
  have w1_0 := w1 a1_0 (by simp)
  have w1_1 := w1 a1_1 (by simp)
  refine (walk W (of_laid hL) a0 w0 a1_0 w1_0 a1_1 w1_1).mono fun e W' ⟨he, bel⟩ => ?_
  subst he
  exact ⟨_, rfl, _, _, _, [], _, [], hW', trodAll_mk1 (shut_bool Tryd.underlying4 _), (trodAll_cons_mk (Below.trod laidOut (by kernel_rfl) (of_decide_eq_true (by kernel_rfl)) k0 bel lt0) (trodAll_cons_mk (Below.trod laidOut (by kernel_rfl) (of_decide_eq_true (by kernel_rfl)) k1 bel lt1) trodAll_mk0)), rfl, bel.frame _, fun h => by cases h⟩

theorem over : Rows.BaseProbesSaid :=
  OpenClaim.holds_of_wide 4 Tryd.f4 rfl rfl rfl rfl rfl rfl rfl ⟨rfl, rfl, rfl, rfl, rfl⟩ rfl rfl rfl rfl rfl (by kernel_rfl) Tryd.func4 (by kernel_rfl)
    (of_decide_eq_true (by kernel_rfl)) (by unfold Func.isWrapper; first | (rw [if_pos (by decide +kernel)]; kernel_rfl) | (rw [if_neg (by decide +kernel)]; exact ⟨rfl, rfl⟩))
    (fun os started H enc _ => lifted os started H enc)

/-- The statement: the card, its listed variable tied to the program's text. -/
theorem proved : Rows.BaseProbesCardSaid :=
  Claim7.holds_tied_plain_at .later [] [.data] true (true, "ebeee08e3815e2b4499081712df606497d0b2e0b920ece7d9eee0a03799f0bab") false
    over (fun _ h => by cases h) (by kernel_rfl) (fun _ h => by cases h) baseProbes_row_tie rfl ⟨rfl, rfl⟩ (by kernel_rfl) rfl
    (fun f fn hf hfn => by
      obtain rfl : f = 4 := Option.some.inj ((show Tryd.prog.funcNamed "suzerain/suzerainlaw17.BaseProbes" = some 4 by kernel_rfl).symm.trans hf) |>.symm
      obtain rfl : fn = Tryd.f4 := (Option.some.inj (Tryd.func4.symm.trans hfn)).symm
      exact ⟨by kernel_rfl, fun j t ht => by
        rw [Tryd.params4] at ht
        have hm : t ∈ [22, 31] := by simpa using Array.mem_of_getElem? ht
        have hall : ([22, 31].all fun u => !Tryd.prog.wantsStandIn u) = true := by kernel_rfl
        exact (show Tryd.prog.wantsStandIn t = false by simpa using List.all_eq_true.1 hall t hm)⟩)
    (by kernel_rfl)
#print axioms proved

end Go.Proofs.YtajamfnadnonoaaDoor.baseProbes
