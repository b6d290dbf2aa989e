/-
  Proved: for any word and any format, the law FieldBack returns true.
  Conditions: none beyond the statement's own.
-/
import Derived.Test.YtpoplagfhenabaaRows
import Derived.Test.YtpoplagfhenabaaOpen
import Derived.Lib.Hide
import Derived.Test.YtpoplagfhenabaaFieldLaw
import Derived.Test.YtpoplagfhenabaaFieldN
namespace Go.Proofs.Ytpoplagfhenabaa.fieldBack
open Go Go.ChangeShapes Go.WideShapes Go.ChangeAt Go.RowKit F W M
set_option linter.unusedVariables false

theorem ret_bool {a b : Bool} (h : a = b) : Ending.returned (.bool a) = .returned (.bool b) := by rw [h]
/-- A format, what its numbers are below, and their step. -/
def Lit (f L s : Int) : Prop := (f = 1 ∧ L = 2048 ∧ s = 1) ∨ (f = 2 ∧ L = 2048 ∧ s = 1) ∨ (f = 3 ∧ L = 4096 ∧ s = 2) ∨ (f = 4 ∧ L = 2147483648 ∧ s = 4096) ∨ (f = 5 ∧ L = 1048576 ∧ s = 2)
theorem lit_iff (n f L s : Int) (h : Lit f L s) : (-(2 ^ (bts f - 1)) ≤ n ∧ n < 2 ^ (bts f - 1) ∧ n % 2 ^ zer f = 0) ↔ (-L ≤ n ∧ n < L ∧ n % s = 0) := by
  rcases h with ⟨rfl, rfl, rfl⟩ | ⟨rfl, rfl, rfl⟩ | ⟨rfl, rfl, rfl⟩ | ⟨rfl, rfl, rfl⟩ | ⟨rfl, rfl, rfl⟩
  · rw [show zer 1 = 0 from rfl, bts_eq.1]; omega
  · rw [show zer 2 = 0 from rfl, bts_eq.2.1]; omega
  · rw [show zer 3 = 1 from rfl, bts_eq.2.2.1]; omega
  · rw [show zer 4 = 12 from rfl, bts_eq.2.2.2.1]; omega
  · rw [show zer 5 = 1 from rfl, bts_eq.2.2.2.2]; omega
theorem lit_fmt {f L s : Int} (h : Lit f L s) : (1 ≤ f ∧ f ≤ 5) ∧ 1 ≤ s ∧ s ≤ 4096 ∧ 2048 ≤ L ∧ L ≤ 2147483648 ∧ L % s = 0 := by
  rcases h with ⟨rfl, rfl, rfl⟩ | ⟨rfl, rfl, rfl⟩ | ⟨rfl, rfl, rfl⟩ | ⟨rfl, rfl, rfl⟩ | ⟨rfl, rfl, rfl⟩ <;> decide
theorem lay_lit (n f L s : Int) (h : Lit f L s) : layB n f = decide (-L ≤ n ∧ n < L ∧ n % s = 0) := by
  rw [lay_iff n f (lit_fmt h).1]
  exact decide_eq_decide.2 (lit_iff n f L s h)
theorem lay_over (f L s : Int) (h : Lit f L s) : layB L f = false := by
  rw [lay_lit L f L s h]; exact decide_eq_false (by omega)
theorem lay_up (n f L s : Int) (h : Lit f L s) (hn : -L ≤ n ∧ n < L ∧ n % s = 0) : layB (n + s) f = decide (n + s < L) := by
  rw [lay_lit (n + s) f L s h]
  have hl := lit_fmt h
  apply decide_eq_decide.2
  rw [Int.add_emod_right]
  omega
theorem lay_odd (n f L s : Int) (h : Lit f L s) (hs : 1 < s) (hn : n % s = 0) : layB (n + s - 1) f = false := by
  rw [lay_lit (n + s - 1) f L s h]
  apply decide_eq_false
  rintro ⟨_, _, h3⟩
  rcases h with ⟨rfl, rfl, rfl⟩ | ⟨rfl, rfl, rfl⟩ | ⟨rfl, rfl, rfl⟩ | ⟨rfl, rfl, rfl⟩ | ⟨rfl, rfl, rfl⟩ <;> omega
theorem lay_apart (n m f : Int) (hn : layB n f = true) (hm : layB m f = true) (h : m ≠ n) : layV m f ≠ layV n f := by
  intro e
  have h1 := lay_told n f hn
  have h2 := lay_told m f hm
  rw [e, h1] at h2
  exact h h2.symm
theorem and_not (y x : Nat) (hy : y < 4294967296) (hx : x < 4294967296) (h : y &&& (4294967295 - x) = 0) : bits .andNot .u32 (y : Int) (x : Int) = 0 := by
  rw [u32_andNot_nat y x hy hx, h]; rfl

set_option maxRecDepth 100000 in
set_option maxHeartbeats 4000000 in
theorem walk (w : World) (a0 : Int) (w0 : (Lit.int .u32 a0).wf = true) (a1 : Int) (w1 : (Lit.int .u8 a1).wf = true) :
    Calls Try.prog 4 #[.int .u32 a0, .int .u8 a1] w fun e w' => e = .returned (.bool true) ∧ Below w.heap.size w w' := by
  have h0 := bounds_u32 w0
  have h1 := bounds_u8 w1
  clear w0 w1
  obtain ⟨x, rfl⟩ : ∃ x : Nat, a0 = x := ⟨a0.toNat, by omega⟩
  have hx : x < 4294967296 := by omega
  obtain ⟨f, ef⟩ : ∃ f : Int, 1 + a1 % 5 = f := ⟨_, rfl⟩
  have hf : 1 ≤ f ∧ f ≤ 5 := by omega
  have HI := Lib.hid (imm_in x f hf)
  have HL := Lib.hid (imm_lay x f hf)
  have HT := Lib.hid (lay_told (immV x f) f (imm_lay x f hf))
  have HN := Lib.hid (and_not _ x (layV_lt (immV x f) f) hx (lay_sub x f hf hx))
  go_enter Try.func4, Try.ntmps4
  go_wp2_with fail
  refine (shown03_c _).mono ?_
  rintro e w1 ⟨rfl, hG⟩
  go_wp2_with fail
  refine (Imm_c x f hx (by omega) _).mono ?_
  rintro e w2 ⟨rfl, hG2⟩
  generalize immV x f = n at *
  obtain ⟨L, s, hLs⟩ : ∃ L s, Lit f L s := by
    rcases (show f = 1 ∨ f = 2 ∨ f = 3 ∨ f = 4 ∨ f = 5 by omega) with rfl | rfl | rfl | rfl | rfl
    · exact ⟨_, _, Or.inl ⟨rfl, rfl, rfl⟩⟩
    · exact ⟨_, _, Or.inr (Or.inl ⟨rfl, rfl, rfl⟩)⟩
    · exact ⟨_, _, Or.inr (Or.inr (Or.inl ⟨rfl, rfl, rfl⟩))⟩
    · exact ⟨_, _, Or.inr (Or.inr (Or.inr (Or.inl ⟨rfl, rfl, rfl⟩)))⟩
    · exact ⟨_, _, Or.inr (Or.inr (Or.inr (Or.inr ⟨rfl, rfl, rfl⟩)))⟩
  have hn := (lit_iff n f L s hLs).1 HI.out
  have hl := lit_fmt hLs
  have HU := Lib.hid (lay_up n f L s hLs hn)
  have HO := Lib.hid (lay_over f L s hLs)
  have HD := Lib.hid (fun h => lay_odd n f L s hLs h hn.2.2)
  go_wp2_with fail
  refine (Lay_c n f (by omega) (by omega) _).mono ?_
  rintro e w3 ⟨rfl, hG3⟩
  rw [HL.out]
  have hy := layV_lt n f
  have hm := layV_lt (n + s) f
  generalize hyv : layV n f = y at *
  obtain ⟨n1, n2, n3⟩ := hn
  clear ef HI
  have HG3 := Lib.hid (gr_trans (gr_trans hG hG2) hG3)
  clear hG hG2 hG3
  rcases hLs with ⟨rfl, rfl, rfl⟩ | ⟨rfl, rfl, rfl⟩ | ⟨rfl, rfl, rfl⟩ | ⟨rfl, rfl, rfl⟩ | ⟨rfl, rfl, rfl⟩
  · go_wp2_with fail
    refine (Lay_c (n + 1) 1 (by omega) (by omega) _).mono ?_
    rintro e w4 ⟨rfl, hG4⟩
    rw [HU.out]
    go_wp2_with fail
    refine (Lay_c 2048 1 (by omega) (by omega) _).mono ?_
    rintro e w5 ⟨rfl, hG5⟩
    rw [HO.out]
    generalize layV 2048 1 = j1 at *
    go_wp2_with fail
    refine (Lay_c n 1 (by omega) (by omega) _).mono ?_
    rintro e w6 ⟨rfl, hG6⟩
    rw [HL.out, hyv]
    have eN := HN.out
    go_wp2_with fail
    refine (Imm_c y 1 hy (by omega) _).mono ?_
    rintro e w7 ⟨rfl, hG7⟩
    rw [HT.out]
    clear eN
    have HG7 := Lib.hid (gr_trans HG3.out (gr_trans (gr_alloc (gr_alloc (gr_refl _ _) _) _) (gr_trans hG4 (gr_trans hG5 (gr_trans hG6 hG7)))))
    clear hG4 hG5 hG6 hG7
    by_cases hu : n + 1 < 2048
    · have hB : layB (n + 1) 1 = true := by rw [HU.out]; exact decide_eq_true hu
      have HW := Lib.hid (lay_told (n + 1) 1 hB)
      have ha : layV (n + 1) 1 ≠ y := by rw [← hyv]; exact lay_apart n (n + 1) 1 HL.out hB (by omega)
      generalize layV (n + 1) 1 = m at *
      have hA : ¬ (m : Int) = (y : Int) := by omega
      clear hB ha hyv
      go_wp2_with fail
      refine (Imm_c m 1 hm (by omega) _).mono ?_
      rintro e w8 ⟨rfl, hG8⟩
      rw [HW.out]
      go_wp2_with fail
      go_ret
      exact ⟨ret_bool (by simp <;> omega), gr_below (gr_trans HG7.out hG8)⟩
    · have hU : decide (n + 1 < 2048) = false := decide_eq_false hu
      generalize layV (n + 1) 1 = m at *
      clear hyv
      go_wp2_with fail
      go_ret
      exact ⟨ret_bool (by simp <;> omega), gr_below HG7.out⟩
  · go_wp2_with fail
    refine (Lay_c (n + 1) 2 (by omega) (by omega) _).mono ?_
    rintro e w4 ⟨rfl, hG4⟩
    rw [HU.out]
    go_wp2_with fail
    refine (Lay_c 2048 2 (by omega) (by omega) _).mono ?_
    rintro e w5 ⟨rfl, hG5⟩
    rw [HO.out]
    generalize layV 2048 2 = j1 at *
    go_wp2_with fail
    refine (Lay_c n 2 (by omega) (by omega) _).mono ?_
    rintro e w6 ⟨rfl, hG6⟩
    rw [HL.out, hyv]
    have eN := HN.out
    go_wp2_with fail
    refine (Imm_c y 2 hy (by omega) _).mono ?_
    rintro e w7 ⟨rfl, hG7⟩
    rw [HT.out]
    clear eN
    have HG7 := Lib.hid (gr_trans HG3.out (gr_trans (gr_alloc (gr_alloc (gr_refl _ _) _) _) (gr_trans hG4 (gr_trans hG5 (gr_trans hG6 hG7)))))
    clear hG4 hG5 hG6 hG7
    by_cases hu : n + 1 < 2048
    · have hB : layB (n + 1) 2 = true := by rw [HU.out]; exact decide_eq_true hu
      have HW := Lib.hid (lay_told (n + 1) 2 hB)
      have ha : layV (n + 1) 2 ≠ y := by rw [← hyv]; exact lay_apart n (n + 1) 2 HL.out hB (by omega)
      generalize layV (n + 1) 2 = m at *
      have hA : ¬ (m : Int) = (y : Int) := by omega
      clear hB ha hyv
      go_wp2_with fail
      refine (Imm_c m 2 hm (by omega) _).mono ?_
      rintro e w8 ⟨rfl, hG8⟩
      rw [HW.out]
      go_wp2_with fail
      go_ret
      exact ⟨ret_bool (by simp <;> omega), gr_below (gr_trans HG7.out hG8)⟩
    · have hU : decide (n + 1 < 2048) = false := decide_eq_false hu
      generalize layV (n + 1) 2 = m at *
      clear hyv
      go_wp2_with fail
      go_ret
      exact ⟨ret_bool (by simp <;> omega), gr_below HG7.out⟩
  · go_wp2_with fail
    refine (Lay_c (n + 2) 3 (by omega) (by omega) _).mono ?_
    rintro e w4 ⟨rfl, hG4⟩
    rw [HU.out]
    go_wp2_with fail
    refine (Lay_c 4096 3 (by omega) (by omega) _).mono ?_
    rintro e w5 ⟨rfl, hG5⟩
    rw [HO.out]
    generalize layV 4096 3 = j1 at *
    go_wp2_with fail
    refine (Lay_c (n + 2 - 1) 3 (by omega) (by omega) _).mono ?_
    rintro e w6 ⟨rfl, hG6⟩
    rw [HD.out (by omega)]
    generalize layV (n + 2 - 1) 3 = j2 at *
    have eN := HN.out
    go_wp2_with fail
    refine (Imm_c y 3 hy (by omega) _).mono ?_
    rintro e w7 ⟨rfl, hG7⟩
    rw [HT.out]
    clear eN
    have HG7 := Lib.hid (gr_trans HG3.out (gr_trans (gr_alloc (gr_alloc (gr_refl _ _) _) _) (gr_trans hG4 (gr_trans hG5 (gr_trans hG6 hG7)))))
    clear hG4 hG5 hG6 hG7
    have tm : n.tmod 2 = 0 := Int.tmod_eq_zero_of_dvd (Int.dvd_of_emod_eq_zero n3)
    by_cases hu : n + 2 < 4096
    · have hB : layB (n + 2) 3 = true := by rw [HU.out]; exact decide_eq_true hu
      have HW := Lib.hid (lay_told (n + 2) 3 hB)
      have ha : layV (n + 2) 3 ≠ y := by rw [← hyv]; exact lay_apart n (n + 2) 3 HL.out hB (by omega)
      generalize layV (n + 2) 3 = m at *
      have hA : ¬ (m : Int) = (y : Int) := by omega
      clear hB ha hyv
      go_wp2_with fail
      refine (Imm_c m 3 hm (by omega) _).mono ?_
      rintro e w8 ⟨rfl, hG8⟩
      rw [HW.out]
      go_wp2_with fail
      go_ret
      exact ⟨ret_bool (by simp <;> omega), gr_below (gr_trans HG7.out hG8)⟩
    · have hU : decide (n + 2 < 4096) = false := decide_eq_false hu
      generalize layV (n + 2) 3 = m at *
      clear hyv
      go_wp2_with fail
      go_ret
      exact ⟨ret_bool (by simp <;> omega), gr_below HG7.out⟩
  · go_wp2_with fail
    refine (Lay_c (n + 4096) 4 (by omega) (by omega) _).mono ?_
    rintro e w4 ⟨rfl, hG4⟩
    rw [HU.out]
    go_wp2_with fail
    refine (Lay_c 2147483648 4 (by omega) (by omega) _).mono ?_
    rintro e w5 ⟨rfl, hG5⟩
    rw [HO.out]
    generalize layV 2147483648 4 = j1 at *
    go_wp2_with fail
    refine (Lay_c (n + 4096 - 1) 4 (by omega) (by omega) _).mono ?_
    rintro e w6 ⟨rfl, hG6⟩
    rw [HD.out (by omega)]
    generalize layV (n + 4096 - 1) 4 = j2 at *
    have eN := HN.out
    go_wp2_with fail
    refine (Imm_c y 4 hy (by omega) _).mono ?_
    rintro e w7 ⟨rfl, hG7⟩
    rw [HT.out]
    clear eN
    have HG7 := Lib.hid (gr_trans HG3.out (gr_trans (gr_alloc (gr_alloc (gr_refl _ _) _) _) (gr_trans hG4 (gr_trans hG5 (gr_trans hG6 hG7)))))
    clear hG4 hG5 hG6 hG7
    have tm : n.tmod 4096 = 0 := Int.tmod_eq_zero_of_dvd (Int.dvd_of_emod_eq_zero n3)
    by_cases hu : n + 4096 < 2147483648
    · have hB : layB (n + 4096) 4 = true := by rw [HU.out]; exact decide_eq_true hu
      have HW := Lib.hid (lay_told (n + 4096) 4 hB)
      have ha : layV (n + 4096) 4 ≠ y := by rw [← hyv]; exact lay_apart n (n + 4096) 4 HL.out hB (by omega)
      generalize layV (n + 4096) 4 = m at *
      have hA : ¬ (m : Int) = (y : Int) := by omega
      clear hB ha hyv
      go_wp2_with fail
      refine (Imm_c m 4 hm (by omega) _).mono ?_
      rintro e w8 ⟨rfl, hG8⟩
      rw [HW.out]
      go_wp2_with fail
      go_ret
      exact ⟨ret_bool (by simp <;> omega), gr_below (gr_trans HG7.out hG8)⟩
    · have hU : decide (n + 4096 < 2147483648) = false := decide_eq_false hu
      generalize layV (n + 4096) 4 = m at *
      clear hyv
      go_wp2_with fail
      go_ret
      exact ⟨ret_bool (by simp <;> omega), gr_below HG7.out⟩
  · go_wp2_with fail
    refine (Lay_c (n + 2) 5 (by omega) (by omega) _).mono ?_
    rintro e w4 ⟨rfl, hG4⟩
    rw [HU.out]
    go_wp2_with fail
    refine (Lay_c 1048576 5 (by omega) (by omega) _).mono ?_
    rintro e w5 ⟨rfl, hG5⟩
    rw [HO.out]
    generalize layV 1048576 5 = j1 at *
    go_wp2_with fail
    refine (Lay_c (n + 2 - 1) 5 (by omega) (by omega) _).mono ?_
    rintro e w6 ⟨rfl, hG6⟩
    rw [HD.out (by omega)]
    generalize layV (n + 2 - 1) 5 = j2 at *
    have eN := HN.out
    go_wp2_with fail
    refine (Imm_c y 5 hy (by omega) _).mono ?_
    rintro e w7 ⟨rfl, hG7⟩
    rw [HT.out]
    clear eN
    have HG7 := Lib.hid (gr_trans HG3.out (gr_trans (gr_alloc (gr_alloc (gr_refl _ _) _) _) (gr_trans hG4 (gr_trans hG5 (gr_trans hG6 hG7)))))
    clear hG4 hG5 hG6 hG7
    have tm : n.tmod 2 = 0 := Int.tmod_eq_zero_of_dvd (Int.dvd_of_emod_eq_zero n3)
    by_cases hu : n + 2 < 1048576
    · have hB : layB (n + 2) 5 = true := by rw [HU.out]; exact decide_eq_true hu
      have HW := Lib.hid (lay_told (n + 2) 5 hB)
      have ha : layV (n + 2) 5 ≠ y := by rw [← hyv]; exact lay_apart n (n + 2) 5 HL.out hB (by omega)
      generalize layV (n + 2) 5 = m at *
      have hA : ¬ (m : Int) = (y : Int) := by omega
      clear hB ha hyv
      go_wp2_with fail
      refine (Imm_c m 5 hm (by omega) _).mono ?_
      rintro e w8 ⟨rfl, hG8⟩
      rw [HW.out]
      go_wp2_with fail
      go_ret
      exact ⟨ret_bool (by simp <;> omega), gr_below (gr_trans HG7.out hG8)⟩
    · have hU : decide (n + 2 < 1048576) = false := decide_eq_false hu
      generalize layV (n + 2) 5 = m at *
      clear hyv
      go_wp2_with fail
      go_ret
      exact ⟨ret_bool (by simp <;> omega), gr_below HG7.out⟩

theorem own : ownKnob Try.prog.godebug = none := by kernel_rfl
theorem laidOut : laidOutB Try.prog = true := by kernel_rfl

set_option maxRecDepth 100000 in
theorem lifted (os : Os) (started : os.Started) (H : Type) (enc : TypeId × Value → H) :
    ReturnsInHanded {} Try.checked os 4 .any (Rows.fieldBackSpec.pre6 enc Try.prog Try.f4 Rows.fieldBackRow.domain false) (Rows.fieldBackSpec.post enc Try.prog Try.f4 false true false false) := by
  refine returnsInHanded_of_change (C := Try.checked) own started (by kernel_rfl) Try.func4
    (ChangeSpec.witness6 (enc := enc) (C := Try.checked) false ⟨#[], #[.int .u32 0, .int .u8 0], []⟩ 8 (by kernel_rfl) (by kernel_rfl) (by kernel_rfl) (by kernel_rfl)) ?_
  intro W base args ds gs before hval0 hW hcnd _
  have hval : ∀ (j : Nat) t v, Try.f4.params[j]? = some t → args[j]? = some v → Value.okWide Try.prog W .any base t v := hval0
  have hW' := hW
  obtain ⟨p, q, hA0, hV, rfl, hfz, hnd⟩ := hW
  have hA : DataW.TrodAll enc Try.prog W 0 (fun _ => true) true Try.f4.params.toList args.toList ds p := hA0
  rw [Try.params4] at hA hval
  obtain ⟨v0, vs0, d0, ds0, p0, q0, hargs, rfl, rfl, h0, r0⟩ := trodAll_cons hA
  obtain ⟨v1, vs1, d1, ds1, p1, q1, rfl, rfl, rfl, h1, r1⟩ := trodAll_cons r0
  obtain ⟨rfl, rfl, rfl⟩ := trodAll_nil r1
  obtain rfl : args = #[v0, v1] := by cases args; simp_all
  obtain ⟨rfl, rfl⟩ := trodVars_none hV
  clear hA0 hval0 hA
  have k0 := h0
  have lt0 : ∀ x ∈ p0, x.block < W.heap.size := by obtain ⟨m, hm⟩ := k0; exact DataW.trod_lt m _ _ _ hm
  obtain ⟨a0, rfl, rfl, rfl, w0⟩ := open_int Try.underlying22 (hval 0 22 v0 rfl rfl) h0
  have k1 := h1
  have lt1 : ∀ x ∈ p1, x.block < W.heap.size := by obtain ⟨m, hm⟩ := k1; exact DataW.trod_lt m _ _ _ hm
  obtain ⟨a1, rfl, rfl, rfl, w1⟩ := open_int Try.underlying5 (hval 1 5 v1 rfl rfl) h1
  refine (walk W a0 w0 a1 w1).mono fun e W' ⟨he, bel⟩ => ?_
  subst he
  exact ⟨_, rfl, _, _, _, [], _, [], hW', trodAll_mk1 (shut_bool Try.underlying4 _), (trodAll_cons_mk (Below.trod laidOut (by kernel_rfl) (of_decide_eq_true (by kernel_rfl)) k0 bel lt0) (trodAll_cons_mk (Below.trod laidOut (by kernel_rfl) (of_decide_eq_true (by kernel_rfl)) k1 bel lt1) trodAll_mk0)), rfl, bel.frame _, fun h => by cases h⟩

theorem over : Rows.fieldBackRow.holds Try.pinned (OpenSpec.ofChange Rows.fieldBackSpec) :=
  OpenClaim.holds_of_wide 4 Try.f4 rfl rfl rfl rfl rfl rfl rfl ⟨rfl, rfl, rfl, rfl, rfl⟩ rfl rfl rfl rfl rfl (by kernel_rfl) Try.func4 (by kernel_rfl)
    (of_decide_eq_true (by kernel_rfl)) (by unfold Func.isWrapper; first | (rw [if_pos (by decide +kernel)]; kernel_rfl) | (rw [if_neg (by decide +kernel)]; exact ⟨rfl, rfl⟩))
    (fun os started H enc _ => lifted os started H enc)

/-- The statement. -/
theorem proved : Rows.FieldBackSaid := over
#print axioms proved

end Go.Proofs.Ytpoplagfhenabaa.fieldBack
