/-
  Proved: for any function, number and error, the law BaseAll returns true: what a call tells, which extensions there are, and an error's name, is as the document says.
  Conditions: none beyond the statement's own (its listed variable is tied to the program's text).
-/
import Derived.Test.YtajamfnadnonoaaDoorRows
import Derived.Test.YtajamfnadnonoaaDoorCards
import Derived.Test.YtajamfnadnonoaaDoorTie
import Derived.Test.YtajamfnadnonoaaDoorLayO
import Derived.Lib.Hide
import Derived.SevenTiedAt
import Derived.Test.YtajamfnadnonoaaDoorBaseDoor
namespace Go.Proofs.YtajamfnadnonoaaDoor.baseAll
open Go Go.ChangeShapes Go.WideShapes Go.ChangeAt Go.RowKit M Bs
set_option linter.unusedVariables false
set_option linter.unusedSimpArgs false

theorem Nms.grown {w w' : World} (h : Nms w) (hg : w.grownBy w' none) : Nms w' := h.turn fun i hi => by
  have hc := h i hi
  exact (gr_below hg).cell (by
    rcases Nat.lt_or_ge 0 w.heap.size with hl | hl
    · exact hl
    · rw [World.cell?] at hc
      simp [Array.getElem?_eq_none hl] at hc)
set_option maxRecDepth 100000 in
set_option maxHeartbeats 2000000 in
theorem walk (w : World) (hL : Nms w) (a0 : Int) (w0 : (Lit.int .u64 a0).wf = true) (a1 : Int) (w1 : (Lit.int .u64 a1).wf = true) (a2 : Int) (w2 : (Lit.int .i64 a2).wf = true) :
    Calls Tryd.prog 3 #[.int .u64 a0, .int .u64 a1, .int .i64 a2] w fun e w' => e = .returned (.bool true) ∧ Below w.heap.size w w' := by
  have h0 := bounds_u64 w0
  have h1 := bounds_u64 w1
  have h2 := bounds_i64 w2
  clear w0 w1 w2
  have C0 := Lib.hid (fun W => Call_c a0 a1 h0 h1 W)
  have R0 := Lib.hid (fun W => rCall_c a0 a1 h0 h1 W)
  have K0 := Lib.hid (fun W => Known_c a1 h1 W)
  have K1 := Lib.hid (fun W => rKnown_c a1 h1 W)
  have N0 := Lib.hid (fun W h => Name_c a2 h2 W h)
  have N1 := Lib.hid (fun W => rName_c a2 h2 W)
  have HL := Lib.hid hL
  clear hL
  generalize callV a0 a1 = r at *
  generalize knownV a1 = kn at *
  generalize nameV a2 = nm at *
  obtain ⟨x, y⟩ := r
  go_enter Tryd.func3, Tryd.ntmps3
  go_wp2_with fail
  refine (shown17_c _).mono ?_
  rintro e1 w1 ⟨rfl, hG⟩
  have HG1 := Lib.hid hG
  clear hG
  go_wp2_with fail
  refine (C0.out _).mono ?_
  rintro e1 w2 ⟨rfl, hG⟩
  have HG2 := Lib.hid (gr_trans HG1.out hG)
  clear hG HG1
  go_wp2_with fail
  refine (R0.out _).mono ?_
  rintro e1 w3 ⟨rfl, hG⟩
  have HG3 := Lib.hid (gr_trans HG2.out hG)
  clear hG HG2
  go_wp2_with fail
  refine (Exts_c _).mono ?_
  rintro e1 w4 ⟨p, rfl, hr, hG⟩
  have HG4 := Lib.hid (gr_trans HG3.out hG)
  have HP := Lib.hid hr
  clear hG HG3 hr
  go_wp2_with fail
  refine (rExts_c _).mono ?_
  rintro e1 w5 ⟨q, rfl, hr, hG⟩
  have HG5 := Lib.hid (gr_trans HG4.out hG)
  have HP1 := Lib.hid (HP.out.grown hG (by simp))
  have HQ := Lib.hid hr
  clear hG HG4 hr HP
  go_wp2_with fail
  go_loopw [14] (fun z wr => ∃ i : Nat, z = .int .i64 i ∧ i ≤ 8 ∧ w5.grownBy wr none) (fun z _ => 8 - (intOf z).toNat)
  case atStart => exact ⟨0, rfl, Nat.zero_le _, gr_refl _ _⟩
  case round =>
    obtain ⟨i, rfl, hi, hg⟩ := hrel
    have HG := Lib.hid hg
    by_cases hlt : i < 8
    · have b1 := (HP1.out.grown hg (by simp)).lt
      have b2 := (HQ.out.grown hg (by simp)).lt
      obtain ⟨c, hc⟩ : ∃ c : Int, allL[i]? = some (.int .u64 c) := by
        have hcc : i = 0 ∨ i = 1 ∨ i = 2 ∨ i = 3 ∨ i = 4 ∨ i = 5 ∨ i = 6 ∨ i = 7 := by omega
        rcases hcc with rfl | rfl | rfl | rfl | rfl | rfl | rfl | rfl <;> exact ⟨_, rfl⟩
      have k1 : wr.cell? ⟨p, i, none⟩ = some (.int .u64 c) := by rw [(HP1.out.grown hg (by simp)).cell i]; exact hc
      have k2 : wr.cell? ⟨q, i, none⟩ = some (.int .u64 c) := by rw [(HQ.out.grown hg (by simp)).cell i]; exact hc
      clear hg hc
      go_wp2_with fail
      go_region
      go_wp2_with fail
      go_roundw
      case rel => exact ⟨i + 1, by go_num, by omega, gr_drew HG.out⟩
      case measure => simp [intOf]; omega
    · obtain rfl : i = 8 := by omega
      have HGw := Lib.hid (gr_trans HG5.out hg)
      have xx : (x == x) = true := by simp
      have yy : (y == y) = true := by simp
      have kk : (kn == kn) = true := by cases kn <;> rfl
      clear hg HG
      go_wp2_with fail
      refine (K0.out _).mono ?_
      rintro e1 w6 ⟨rfl, hG⟩
      have HG6 := Lib.hid (gr_trans HGw.out hG)
      clear hG HGw
      go_wp2_with fail
      refine (K1.out _).mono ?_
      rintro e1 w7 ⟨rfl, hG⟩
      have HG7 := Lib.hid (gr_trans HG6.out hG)
      clear hG HG6
      go_wp2_with fail
      refine (N0.out _ (Nms.grown HL.out HG7.out)).mono ?_
      rintro e1 w8 ⟨rfl, rfl⟩
      go_wp2_with fail
      refine (N1.out _).mono ?_
      rintro e1 w8 ⟨rfl, hG⟩
      have HG8 := Lib.hid (gr_below (gr_trans HG7.out hG))
      clear hG HG7
      go_wp2_with fail
      go_ret
      exact ⟨rfl, HG8.out⟩

theorem own : ownKnob Tryd.prog.godebug = none := by kernel_rfl
theorem laidOut : laidOutB Tryd.prog = true := by kernel_rfl

set_option maxRecDepth 100000 in
theorem lifted (os : Os) (started : os.Started) (H : Type) (enc : TypeId × Value → H) :
    ReturnsInHanded {} Tryd.checked os 3 .any (fun w args => (Rows.baseAllSpec.pre enc Tryd.prog Tryd.f3 [] false w args ∧ laidMetH Tryd.prog laidL w) ∧ sizedMet enc Tryd.prog Tryd.f3 (OpenSpec.ofChange Rows.baseAllSpec) false w args)
      (Rows.baseAllSpec.post enc Tryd.prog Tryd.f3 false true false false) := by
  refine returnsInHanded_of_change_and (C := Tryd.checked) (X := fun w _ => laidMetH Tryd.prog laidL w) (fun _ _ _ hh h => h.of_heap hh) own started (by kernel_rfl) Tryd.func3
    (ChangeSpec.witness_shaped (enc := enc) (C := Tryd.checked) (os := os) (X := fun w _ => laidMetH Tryd.prog laidL w) false (World.doorLaid Tryd.prog 400 os) #[.int .u64 0, .int .u64 0, .int .i64 0] 8 rfl (World.shaped_of_RefB (by kernel_rfl) (by kernel_rfl)) (by kernel_rfl) (by kernel_rfl) (by kernel_rfl) (door_met os _)) ?_
  intro W base args ds gs before hval0 hW _ _ hL _
  have hval : ∀ (j : Nat) t v, Tryd.f3.params[j]? = some t → args[j]? = some v → Value.okWide Tryd.prog W .any base t v := hval0
  have hW' := hW
  obtain ⟨p, q, hA0, hV, rfl, hfz, hnd⟩ := hW
  have hA : DataW.TrodAll enc Tryd.prog W 0 (fun _ => true) true Tryd.f3.params.toList args.toList ds p := hA0
  rw [Tryd.params3] at hA hval
  obtain ⟨v0, vs0, d0, ds0, p0, q0, hargs, rfl, rfl, h0, r0⟩ := trodAll_cons hA
  obtain ⟨v1, vs1, d1, ds1, p1, q1, rfl, rfl, rfl, h1, r1⟩ := trodAll_cons r0
  obtain ⟨v2, vs2, d2, ds2, p2, q2, rfl, rfl, rfl, h2, r2⟩ := trodAll_cons r1
  obtain ⟨rfl, rfl, rfl⟩ := trodAll_nil r2
  obtain rfl : args = #[v0, v1, v2] := by cases args; simp_all
  obtain ⟨rfl, rfl⟩ := trodVars_none hV
  clear hA0 hval0 hA
  have k0 := h0
  have lt0 : ∀ x ∈ p0, x.block < W.heap.size := by obtain ⟨m, hm⟩ := k0; exact DataW.trod_lt m _ _ _ hm
  obtain ⟨a0, rfl, rfl, rfl, w0⟩ := open_int Tryd.underlying22 (hval 0 22 v0 rfl rfl) h0
  have k1 := h1
  have lt1 : ∀ x ∈ p1, x.block < W.heap.size := by obtain ⟨m, hm⟩ := k1; exact DataW.trod_lt m _ _ _ hm
  obtain ⟨a1, rfl, rfl, rfl, w1⟩ := open_int Tryd.underlying22 (hval 1 22 v1 rfl rfl) h1
  have k2 := h2
  have lt2 : ∀ x ∈ p2, x.block < W.heap.size := by obtain ⟨m, hm⟩ := k2; exact DataW.trod_lt m _ _ _ hm
  obtain ⟨a2, rfl, rfl, rfl, w2⟩ := open_int Tryd.underlying3 (hval 2 3 v2 rfl rfl) h2
  refine (walk W (of_laid hL) a0 w0 a1 w1 a2 w2).mono fun e W' ⟨he, bel⟩ => ?_
  subst he
  exact ⟨_, rfl, _, _, _, [], _, [], hW', trodAll_mk1 (shut_bool Tryd.underlying4 _), (trodAll_cons_mk (Below.trod laidOut (by kernel_rfl) (of_decide_eq_true (by kernel_rfl)) k0 bel lt0) (trodAll_cons_mk (Below.trod laidOut (by kernel_rfl) (of_decide_eq_true (by kernel_rfl)) k1 bel lt1) (trodAll_cons_mk (Below.trod laidOut (by kernel_rfl) (of_decide_eq_true (by kernel_rfl)) k2 bel lt2) trodAll_mk0))), rfl, bel.frame _, fun h => by cases h⟩

theorem over : Rows.BaseAllSaid :=
  OpenClaim.holds_of_wide 3 Tryd.f3 rfl rfl rfl rfl rfl rfl rfl ⟨rfl, rfl, rfl, rfl, rfl⟩ rfl rfl rfl rfl rfl (by kernel_rfl) Tryd.func3 (by kernel_rfl)
    (of_decide_eq_true (by kernel_rfl)) (by unfold Func.isWrapper; first | (rw [if_pos (by decide +kernel)]; kernel_rfl) | (rw [if_neg (by decide +kernel)]; exact ⟨rfl, rfl⟩))
    (fun os started H enc _ => lifted os started H enc)

/-- The statement: the card, its listed variable tied to the program's text. -/
theorem proved : Rows.BaseAllCardSaid :=
  Claim7.holds_tied_plain_at .later [] [.data] true (true, "ebeee08e3815e2b4499081712df606497d0b2e0b920ece7d9eee0a03799f0bab") false
    over (fun _ h => by cases h) (by kernel_rfl) (fun _ h => by cases h) baseAll_row_tie rfl ⟨rfl, rfl⟩ (by kernel_rfl) rfl
    (fun f fn hf hfn => by
      obtain rfl : f = 3 := Option.some.inj ((show Tryd.prog.funcNamed "suzerain/suzerainlaw17.BaseAll" = some 3 by kernel_rfl).symm.trans hf) |>.symm
      obtain rfl : fn = Tryd.f3 := (Option.some.inj (Tryd.func3.symm.trans hfn)).symm
      exact ⟨by kernel_rfl, fun j t ht => by
        rw [Tryd.params3] at ht
        have hm : t ∈ [22, 22, 3] := by simpa using Array.mem_of_getElem? ht
        have hall : ([22, 22, 3].all fun u => !Tryd.prog.wantsStandIn u) = true := by kernel_rfl
        exact (show Tryd.prog.wantsStandIn t = false by simpa using List.all_eq_true.1 hall t hm)⟩)
    (by kernel_rfl)
#print axioms proved

end Go.Proofs.YtajamfnadnonoaaDoor.baseAll
