/-
  Proved: for any word and any two registers, the law DecodeRegisters returns true: the registers of a word that is an instruction that has them are its bits, and to change these changes nothing else of it.
  Conditions: none beyond the statement's own (its listed variable is tied to the program's text).
-/
import Derived.Test.YtdcihcmhmgeheaaDoorRows
import Derived.Test.YtdcihcmhmgeheaaDoorCards
import Derived.Test.YtdcihcmhmgeheaaDoorTie
import Derived.Test.YtdcihcmhmgeheaaDoorOpen
import Derived.Lib.Hide
import Derived.SevenTiedAt
import Derived.Test.YtdcihcmhmgeheaaDoorDecDoor
import Derived.Test.YtdcihcmhmgeheaaDoorDecQ
import Derived.Test.YtdcihcmhmgeheaaDoorFieldR2
namespace Go.Proofs.YtdcihcmhmgeheaaDoor.decodeRegisters
open Go Go.ChangeShapes Go.WideShapes Go.ChangeAt Go.RowKit F W M D
set_option linter.unusedVariables false

/-- A call that leaves the world as it is, met in a region that only reads. -/
theorem quietly {P : Program} {f : FuncId} {args : Array Value} {W : World} {v : Value} {Q : World → Prop}
    (h : Calls P f args W fun e w' => e = .returned v ∧ W = w') (hQ : Q W) : Calls P f args W fun e w'' => e = .returned v ∧ Q w'' :=
  h.mono fun _ _ ⟨he, hw⟩ => ⟨he, hw ▸ hQ⟩

/-- A word whose instruction has no register to write. -/
theorem way_no (x : Nat) (hx : x < 4294967296) (a0 a1 : Int) (h0 : 0 ≤ a0 ∧ a0 ≤ 255) (h1 : 0 ≤ a1 ∧ a1 ≤ 255) (o rd rs1 rs2 im k : Int) (ho : 0 ≤ o ∧ o ≤ 97) (hW : D.wordV x = (o, rd, rs1, rs2, im)) (hK : kindV o = k) (hk : k = 0 ∨ k = 2 ∨ k = 4 ∨ k = 11) (w : World) (hL : Tbl w) :
    Calls Tryd.prog 5 #[.int .u32 x, .agg #[.int .u8 a0, .int .u8 a1]] w fun e w' => e = .returned (.bool true) ∧ Below w.heap.size w w' := by
  have HW := Lib.hid (fun W => Word_at hx hW W)
  clear hW
  have HL := Lib.hid hL
  clear hL
  obtain ⟨a, ha, ea, _⟩ := b_and31 a0 h0
  obtain ⟨b, hb, eb, _⟩ := b_and31 a1 h1
  have HR := Lib.hid (Row.fresh w 30 [.int .u8 a0, .int .u8 a1])
  have HK := Lib.hid hK
  clear hK
  rcases hk with rfl | rfl | rfl | rfl
  all_goals
    go_enter Tryd.func5, Tryd.ntmps5
    go_wp2_with fail
    refine (shown04_c _).mono ?_
    rintro e w1 ⟨rfl, hG1⟩
    have G1 := Lib.hid hG1
    clear hG1
    go_wp2_with fail
    refine (HW.out _).mono ?_
    rintro e w2 ⟨rfl, hG2⟩
    have G2 := Lib.hid hG2
    clear hG2
    have GG := Lib.hid (gr_alloc (gr_trans (gr_trans (gr_alloc (gr_refl w none) (.cells #[.int .u8 a0, .int .u8 a1] 30)) G1.out) G2.out) (.cells #[.int .i64 o, .int .i64 rd, .int .i64 rs1, .int .i64 rs2, .int .i64 im, .int .i64 4] 25))
    have q0 := HR.out.grown (gr_trans G1.out G2.out) (by simp)
    have l0 := q0.lt
    have c0 := q0.cell 0
    have c1 := q0.cell 1
    simp only [List.getElem?_cons_zero, List.getElem?_cons_succ] at c0 c1
    clear q0
    go_wp2_with fail
    refine (Kind_c o (by omega) _ (HL.out.grown GG.out)).mono ?_
    rintro e w3 ⟨rfl, rfl⟩
    rw [HK.out]
    go_wp2_with fail
    go_ret
    exact ⟨rfl, gr_below GG.out⟩

set_option maxRecDepth 100000 in
set_option maxHeartbeats 4000000 in
/-- .. that has one to write, and none to read. -/
theorem way_one (x : Nat) (hx : x < 4294967296) (a0 a1 : Int) (h0 : 0 ≤ a0 ∧ a0 ≤ 255) (h1 : 0 ≤ a1 ∧ a1 ≤ 255) (o : Int) (ho : 1 ≤ o ∧ o ≤ 3) (hO : (D.wordV x).1 = o) (w : World) (hL : Tbl w) :
    Calls Tryd.prog 5 #[.int .u32 x, .agg #[.int .u8 a0, .int .u8 a1]] w fun e w' => e = .returned (.bool true) ∧ Below w.heap.size w w' := by
  have HL := Lib.hid hL
  clear hL
  obtain ⟨a, ha, ea, _⟩ := b_and31 a0 h0
  obtain ⟨b, hb, eb, _⟩ := b_and31 a1 h1
  obtain ⟨im, hW, hV⟩ := reg_one x a ha (by omega)
  rw [hO] at hW hV
  have hv := setd_lt x a hx ha
  have EV := Lib.hid (setd_bits x a hx ha)
  have HW := Lib.hid (fun W => Word_at hx hW W)
  have HV := Lib.hid (fun W => Word_at hv hV W)
  have HRd := Lib.hid (fun W => rRd_c x hx W)
  have HK := Lib.hid (show kindV o = 1 from kind_at o 1 (by decide) (show o ≤ 4 by omega) (Or.inr (show (0 : Int) < o by omega)))
  have n4 : (o != 4) = true := by simp; omega
  clear hW hV hO
  have HR := Lib.hid (Row.fresh w 30 [.int .u8 a0, .int .u8 a1])
  generalize setd x a = v at *
  have hq := get_lt x 7 5
  generalize get x 7 5 = q at *
  go_enter Tryd.func5, Tryd.ntmps5
  go_wp2_with fail
  refine (shown04_c _).mono ?_
  rintro e w1 ⟨rfl, hG1⟩
  have G1 := Lib.hid hG1
  clear hG1
  go_wp2_with fail
  refine (HW.out _).mono ?_
  rintro e w2 ⟨rfl, hG2⟩
  have G2 := Lib.hid hG2
  clear hG2
  have GG := Lib.hid (gr_alloc (gr_trans (gr_trans (gr_alloc (gr_refl w none) (.cells #[.int .u8 a0, .int .u8 a1] 30)) G1.out) G2.out) (.cells #[.int .i64 o, .int .i64 q, .int .i64 0, .int .i64 0, .int .i64 im, .int .i64 4] 25))
  have q0 := HR.out.grown (gr_trans G1.out G2.out) (by simp)
  have l0 := q0.lt
  have c0 := q0.cell 0
  have c1 := q0.cell 1
  simp only [List.getElem?_cons_zero, List.getElem?_cons_succ] at c0 c1
  clear q0
  go_wp2_with fail
  refine (Kind_c o (by omega) _ (HL.out.grown GG.out)).mono ?_
  rintro e w3 ⟨rfl, rfl⟩
  rw [HK.out]
  go_wp2_with fail
  rw [EV.out]
  refine (HV.out _).mono ?_
  rintro e w3 ⟨rfl, hG3⟩
  have G3 := Lib.hid hG3
  clear hG3
  have qx := (Row.fresh w2 25 [.int .i64 o, .int .i64 q, .int .i64 0, .int .i64 0, .int .i64 im, .int .i64 4]).grown G3.out (by simp)
  have l1 := qx.lt
  have x0 := qx.cell 0
  have x1 := qx.cell 1
  have x2 := qx.cell 2
  have x3 := qx.cell 3
  have x4 := qx.cell 4
  simp only [List.getElem?_cons_zero, List.getElem?_cons_succ] at x0 x1 x2 x3 x4
  clear qx c0 c1
  go_wp2_with fail
  go_quiet ((go_at_call 12; exact quietly (HRd.out _) ⟨_, rfl⟩))
  go_wp2_with fail
  go_ret
  exact ⟨rfl, gr_below (gr_drewN (gr_alloc (gr_trans GG.out G3.out) _) _)⟩
set_option maxRecDepth 100000 in
set_option maxHeartbeats 4000000 in
/-- .. that has one to write, and one to read or two. -/
theorem way_two (x : Nat) (hx : x < 4294967296) (a0 a1 : Int) (h0 : 0 ≤ a0 ∧ a0 ≤ 255) (h1 : 0 ≤ a1 ∧ a1 ≤ 255) (o k : Int) (ho : 0 ≤ o ∧ o ≤ 97) (hr : o = 4 ∨ (11 ≤ o ∧ o ≤ 17) ∨ (22 ≤ o ∧ o ≤ 62) ∨ 70 ≤ o) (hK : kindV o = k) (hk : (k == 0) = false ∧ (k == 2) = false ∧ (k == 4) = false ∧ (k == 11) = false) (h14 : ((k == 1) = true ∧ o = 4) ∨ (k == 1) = false) (hO : (D.wordV x).1 = o) (w : World) (hL : Tbl w) :
    Calls Tryd.prog 5 #[.int .u32 x, .agg #[.int .u8 a0, .int .u8 a1]] w fun e w' => e = .returned (.bool true) ∧ Below w.heap.size w w' := by
  have HL := Lib.hid hL
  clear hL
  obtain ⟨a, ha, ea, _⟩ := b_and31 a0 h0
  obtain ⟨b, hb, eb, _⟩ := b_and31 a1 h1
  obtain ⟨r, im, hW, hV, hU⟩ := reg_two x a b ha hb (by omega)
  rw [hO] at hW hV hU
  have hv := setd_lt x a hx ha
  have hu := sets_lt x b hx hb
  have EV := Lib.hid (setd_bits x a hx ha)
  have EU := Lib.hid (sets_bits x b hx hb)
  have HW := Lib.hid (fun W => Word_at hx hW W)
  have HV := Lib.hid (fun W => Word_at hv hV W)
  have HU := Lib.hid (fun W => Word_at hu hU W)
  have HR1 := Lib.hid (fun W => rRs1_c x hx W)
  have HRd := Lib.hid (fun W => rRd_c x hx W)
  have HK := Lib.hid hK
  obtain ⟨k0, k2, k4, k11⟩ := hk
  clear hW hV hU hO hr hK
  have HR := Lib.hid (Row.fresh w 30 [.int .u8 a0, .int .u8 a1])
  generalize setd x a = v at *
  have hq := get_lt x 7 5
  generalize get x 7 5 = q at *
  have hp := get_lt x 15 5
  generalize get x 15 5 = p at *
  generalize sets x b = u at *
  go_enter Tryd.func5, Tryd.ntmps5
  go_wp2_with fail
  refine (shown04_c _).mono ?_
  rintro e w1 ⟨rfl, hG1⟩
  have G1 := Lib.hid hG1
  clear hG1
  go_wp2_with fail
  refine (HW.out _).mono ?_
  rintro e w2 ⟨rfl, hG2⟩
  have G2 := Lib.hid hG2
  clear hG2
  have GG := Lib.hid (gr_alloc (gr_trans (gr_trans (gr_alloc (gr_refl w none) (.cells #[.int .u8 a0, .int .u8 a1] 30)) G1.out) G2.out) (.cells #[.int .i64 o, .int .i64 q, .int .i64 p, .int .i64 r, .int .i64 im, .int .i64 4] 25))
  have q0 := HR.out.grown (gr_trans G1.out G2.out) (by simp)
  have l0 := q0.lt
  have c0 := q0.cell 0
  have c1 := q0.cell 1
  simp only [List.getElem?_cons_zero, List.getElem?_cons_succ] at c0 c1
  clear q0
  go_wp2_with fail
  refine (Kind_c o (by omega) _ (HL.out.grown GG.out)).mono ?_
  rintro e w3 ⟨rfl, rfl⟩
  rw [HK.out]
  go_wp2_with fail
  rw [EV.out]
  refine (HV.out _).mono ?_
  rintro e w3 ⟨rfl, hG3⟩
  have G3 := Lib.hid hG3
  clear hG3
  have qx := (Row.fresh w2 25 [.int .i64 o, .int .i64 q, .int .i64 p, .int .i64 r, .int .i64 im, .int .i64 4]).grown G3.out (by simp)
  have l1 := qx.lt
  have x0 := qx.cell 0
  have x1 := qx.cell 1
  have x2 := qx.cell 2
  have x3 := qx.cell 3
  have x4 := qx.cell 4
  simp only [List.getElem?_cons_zero, List.getElem?_cons_succ] at x0 x1 x2 x3 x4
  have QX := Lib.hid qx
  clear qx c0 c1
  go_wp2_with fail
  go_quiet ((go_at_call 12; exact quietly (HRd.out _) ⟨_, rfl⟩))
  rcases h14 with ⟨k1, rfl⟩ | k1
  all_goals
    go_wp2_with fail
    rw [EU.out]
    refine (HU.out _).mono ?_
    rintro e w4 ⟨rfl, hG4⟩
    have G4 := Lib.hid hG4
    clear hG4 x0 x1 x2 x3 x4
    have qx := QX.out.grown (gr_trans (gr_drewN (gr_alloc (gr_refl _ none) _) _) G4.out) (by simp)
    have l2 := qx.lt
    have x0 := qx.cell 0
    have x1 := qx.cell 1
    have x2 := qx.cell 2
    have x3 := qx.cell 3
    have x4 := qx.cell 4
    simp only [List.getElem?_cons_zero, List.getElem?_cons_succ] at x0 x1 x2 x3 x4
    clear qx
    go_wp2_with fail
    go_quiet ((go_at_call 13; exact quietly (HR1.out _) ⟨_, rfl⟩))
    go_wp2_with fail
    go_ret
    exact ⟨rfl, gr_below (gr_drewN (gr_alloc (gr_trans (gr_drewN (gr_alloc (gr_trans GG.out G3.out) _) _) G4.out) _) _)⟩

theorem kind_two (o : Int) (h0 : 0 ≤ o) (h1 : o ≤ 97) : (kindV o = 0 ∨ kindV o = 2 ∨ kindV o = 4 ∨ kindV o = 11) ∨ (1 ≤ o ∧ o ≤ 3) ∨
    ((o = 4 ∨ (11 ≤ o ∧ o ≤ 17) ∨ (22 ≤ o ∧ o ≤ 62) ∨ 70 ≤ o) ∧ ((kindV o == 0) = false ∧ (kindV o == 2) = false ∧ (kindV o == 4) = false ∧ (kindV o == 11) = false) ∧ (((kindV o == 1) = true ∧ o = 4) ∨ (kindV o == 1) = false)) := by
  have all : ∀ k : Nat, k < 98 → (kindV k = 0 ∨ kindV k = 2 ∨ kindV k = 4 ∨ kindV k = 11) ∨ (1 ≤ (k : Int) ∧ (k : Int) ≤ 3) ∨
    (((k : Int) = 4 ∨ (11 ≤ (k : Int) ∧ (k : Int) ≤ 17) ∨ (22 ≤ (k : Int) ∧ (k : Int) ≤ 62) ∨ 70 ≤ (k : Int)) ∧ ((kindV k == 0) = false ∧ (kindV k == 2) = false ∧ (kindV k == 4) = false ∧ (kindV k == 11) = false) ∧ (((kindV k == 1) = true ∧ (k : Int) = 4) ∨ (kindV k == 1) = false)) := by decide +kernel
  have := all o.toNat (by omega)
  rwa [Int.toNat_of_nonneg h0] at this

theorem walk (w : World) (hL : Tbl w) (a0 : Int) (w0 : (Lit.int .u32 a0).wf = true) (a1_0 : Int) (w1_0 : (Lit.int .u8 a1_0).wf = true) (a1_1 : Int) (w1_1 : (Lit.int .u8 a1_1).wf = true) :
    Calls Tryd.prog 5 #[.int .u32 a0, .agg #[.int .u8 a1_0, .int .u8 a1_1]] w fun e w' => e = .returned (.bool true) ∧ Below w.heap.size w w' := by
  have h0 := bounds_u32 w0
  have h1 := bounds_u8 w1_0
  have h2 := bounds_u8 w1_1
  clear w0 w1_0 w1_1
  obtain ⟨x, rfl⟩ : ∃ x : Nat, a0 = x := ⟨a0.toNat, by omega⟩
  have hx : x < 4294967296 := by omega
  obtain ⟨o0, o1, hS⟩ := word_shape x
  rcases kind_two (D.wordV x).1 o0 o1 with h | h | ⟨h, h', h14⟩
  · exact way_no x hx _ _ h1 h2 _ _ _ _ _ _ ⟨o0, o1⟩ hS rfl h w hL
  · exact way_one x hx _ _ h1 h2 _ h rfl w hL
  · exact way_two x hx _ _ h1 h2 _ _ ⟨o0, o1⟩ h rfl h' h14 rfl w hL

theorem own : ownKnob Tryd.prog.godebug = none := by kernel_rfl
theorem laidOut : laidOutB Tryd.prog = true := by kernel_rfl

set_option maxRecDepth 100000 in
theorem lifted (os : Os) (started : os.Started) (H : Type) (enc : TypeId × Value → H) :
    ReturnsInHanded {} Tryd.checked os 5 .any (fun w args => (Rows.decodeRegistersSpec.pre enc Tryd.prog Tryd.f5 [] false w args ∧ laidMetH Tryd.prog laidL w) ∧ sizedMet enc Tryd.prog Tryd.f5 (OpenSpec.ofChange Rows.decodeRegistersSpec) false w args)
      (Rows.decodeRegistersSpec.post enc Tryd.prog Tryd.f5 false true false false) := by
  refine returnsInHanded_of_change_and (C := Tryd.checked) (X := fun w _ => laidMetH Tryd.prog laidL w) (fun _ _ _ hh h => h.of_heap hh) own started (by kernel_rfl) Tryd.func5
    (ChangeSpec.witness_shaped (enc := enc) (C := Tryd.checked) (os := os) (X := fun w _ => laidMetH Tryd.prog laidL w) false (World.doorLaid Tryd.prog 400 os) #[.int .u32 0, .agg #[.int .u8 0, .int .u8 0]] 8 rfl (World.shaped_of_RefB (by kernel_rfl) (by kernel_rfl)) (by kernel_rfl) (by kernel_rfl) (by kernel_rfl) (door_met os _)) ?_
  intro W base args ds gs before hval0 hW _ _ hL _
  have hval : ∀ (j : Nat) t v, Tryd.f5.params[j]? = some t → args[j]? = some v → Value.okWide Tryd.prog W .any base t v := hval0
  have hW' := hW
  obtain ⟨p, q, hA0, hV, rfl, hfz, hnd⟩ := hW
  have hA : DataW.TrodAll enc Tryd.prog W 0 (fun _ => true) true Tryd.f5.params.toList args.toList ds p := hA0
  rw [Tryd.params5] at hA hval
  obtain ⟨v0, vs0, d0, ds0, p0, q0, hargs, rfl, rfl, h0, r0⟩ := trodAll_cons hA
  obtain ⟨v1, vs1, d1, ds1, p1, q1, rfl, rfl, rfl, h1, r1⟩ := trodAll_cons r0
  obtain ⟨rfl, rfl, rfl⟩ := trodAll_nil r1
  obtain rfl : args = #[v0, v1] := by cases args; simp_all
  obtain ⟨rfl, rfl⟩ := trodVars_none hV
  clear hA0 hval0 hA
  have k0 := h0
  have lt0 : ∀ x ∈ p0, x.block < W.heap.size := by obtain ⟨m, hm⟩ := k0; exact DataW.trod_lt m _ _ _ hm
  obtain ⟨a0, rfl, rfl, rfl, w0⟩ := open_int Tryd.underlying22 (hval 0 22 v0 rfl rfl) h0
  have k1 := h1
  have lt1 : ∀ x ∈ p1, x.block < W.heap.size := by obtain ⟨m, hm⟩ := k1; exact DataW.trod_lt m _ _ _ hm
  obtain ⟨xs1, rfl, l1, w1⟩ := Op.open_arr_int Tryd.underlying30 Tryd.underlying5 (by kernel_rfl) (by kernel_rfl) (hval 1 30 v1 rfl rfl) h1
  obtain _ | ⟨a1_0, xs1⟩ := xs1
  · simp at l1
  obtain _ | ⟨a1_1, xs1⟩ := xs1
  · simp at l1
  obtain _ | ⟨_, _⟩ := xs1
  rotate_left
  · simp at l1
  clear h1
  simp only [List.map_cons, List.map_nil] at *
  have w1_0 := w1 a1_0 (by simp)
  have w1_1 := w1 a1_1 (by simp)
  refine (walk W (of_laid hL) a0 w0 a1_0 w1_0 a1_1 w1_1).mono fun e W' ⟨he, bel⟩ => ?_
  subst he
  exact ⟨_, rfl, _, _, _, [], _, [], hW', trodAll_mk1 (shut_bool Tryd.underlying4 _), (trodAll_cons_mk (Below.trod laidOut (by kernel_rfl) (of_decide_eq_true (by kernel_rfl)) k0 bel lt0) (trodAll_cons_mk (Below.trod laidOut (by kernel_rfl) (of_decide_eq_true (by kernel_rfl)) k1 bel lt1) trodAll_mk0)), rfl, bel.frame _, fun h => by cases h⟩

theorem over : Rows.DecodeRegistersSaid :=
  OpenClaim.holds_of_wide 5 Tryd.f5 rfl rfl rfl rfl rfl rfl rfl ⟨rfl, rfl, rfl, rfl, rfl⟩ rfl rfl rfl rfl rfl (by kernel_rfl) Tryd.func5 (by kernel_rfl)
    (of_decide_eq_true (by kernel_rfl)) (by unfold Func.isWrapper; first | (rw [if_pos (by decide +kernel)]; kernel_rfl) | (rw [if_neg (by decide +kernel)]; exact ⟨rfl, rfl⟩))
    (fun os started H enc _ => lifted os started H enc)

/-- The statement: the card, its listed variable tied to the program's text. -/
theorem proved : Rows.DecodeRegistersCardSaid :=
  Claim7.holds_tied_plain_at .later [] [.data] true (true, "7849b47f98f0832acb1a4035c472c4c9086a66ce973dde5adbca576edec10596") false
    over (fun _ h => by cases h) (by kernel_rfl) (fun _ h => by cases h) decodeRegisters_row_tie rfl ⟨rfl, rfl⟩ (by kernel_rfl) rfl
    (fun f fn hf hfn => by
      obtain rfl : f = 5 := Option.some.inj ((show Tryd.prog.funcNamed "suzerain/suzerainlaw04.DecodeRegisters" = some 5 by kernel_rfl).symm.trans hf) |>.symm
      obtain rfl : fn = Tryd.f5 := (Option.some.inj (Tryd.func5.symm.trans hfn)).symm
      exact ⟨by kernel_rfl, fun j t ht => by
        rw [Tryd.params5] at ht
        have hm : t ∈ [22, 30] := by simpa using Array.mem_of_getElem? ht
        have hall : ([22, 30].all fun u => !Tryd.prog.wantsStandIn u) = true := by kernel_rfl
        exact (show Tryd.prog.wantsStandIn t = false by simpa using List.all_eq_true.1 hall t hm)⟩)
    (by kernel_rfl)
#print axioms proved

end Go.Proofs.YtdcihcmhmgeheaaDoor.decodeRegisters
