/-
  Proved: for any word and any three registers, the law FieldRegisters returns true.
  Conditions: none beyond the statement's own.
-/
import Derived.Test.YtpoplagfhenabaaRows
import Derived.Test.YtpoplagfhenabaaOpen
import Derived.Lib.Hide
import Derived.Test.YtpoplagfhenabaaFieldLaw
namespace Go.Proofs.Ytpoplagfhenabaa.fieldRegisters
open Go Go.ChangeShapes Go.WideShapes Go.ChangeAt Go.RowKit F W M
set_option linter.unusedVariables false

/-- The word put together. -/
def put (x a b c : Nat) : Nat := (x &&& 4261441663) ||| a <<< 7 ||| b <<< 15 ||| c <<< 20
theorem mask_bits : ∀ i, i < 32 → Nat.testBit 4261441663 i = (decide (i < 7) || (decide (12 ≤ i) && decide (i < 15)) || decide (25 ≤ i)) := by decide
theorem small (a i : Nat) (ha : a < 32) (hi : 5 ≤ i) : a.testBit i = false :=
  Nat.testBit_lt_two_pow (Nat.lt_of_lt_of_le ha (by have : (2 : Nat) ^ 5 ≤ 2 ^ i := Nat.pow_le_pow_right (by omega) hi; exact this))
theorem word_bit (x i : Nat) (hx : x < 4294967296) (hi : 32 ≤ i) : x.testBit i = false :=
  Nat.testBit_lt_two_pow (Nat.lt_of_lt_of_le hx (by have : (2 : Nat) ^ 32 ≤ 2 ^ i := Nat.pow_le_pow_right (by omega) hi; exact this))
theorem put_bit (x a b c i : Nat) (hi : i < 32) (ha : a < 32) (hb : b < 32) (hc : c < 32) :
    (put x a b c).testBit i = if i < 7 then x.testBit i else if i < 12 then a.testBit (i - 7) else if i < 15 then x.testBit i else if i < 20 then b.testBit (i - 15) else if i < 25 then c.testBit (i - 20) else x.testBit i := by
  rw [put, Nat.testBit_or, Nat.testBit_or, Nat.testBit_or, Nat.testBit_and, Nat.testBit_shiftLeft, Nat.testBit_shiftLeft, Nat.testBit_shiftLeft, mask_bits i hi]
  by_cases h1 : i < 7
  · simp [h1, show ¬ 7 ≤ i from by omega, show ¬ 15 ≤ i from by omega, show ¬ 20 ≤ i from by omega]
  by_cases h2 : i < 12
  · simp [h1, h2, show 7 ≤ i from by omega, show ¬ 12 ≤ i from by omega, show ¬ 15 ≤ i from by omega, show ¬ 20 ≤ i from by omega, show ¬ 25 ≤ i from by omega]
  have sa := small a (i - 7) ha (by omega)
  by_cases h3 : i < 15
  · simp [h1, h2, h3, sa, show 12 ≤ i from by omega, show ¬ 15 ≤ i from by omega, show ¬ 20 ≤ i from by omega]
  by_cases h4 : i < 20
  · simp [h1, h2, h3, h4, sa, show 15 ≤ i from by omega, show ¬ 20 ≤ i from by omega, show ¬ 25 ≤ i from by omega]
  have sb := small b (i - 15) hb (by omega)
  by_cases h5 : i < 25
  · simp [h1, h2, h3, h4, h5, sa, sb, show 20 ≤ i from by omega, show ¬ 25 ≤ i from by omega]
  have sc := small c (i - 20) hc (by omega)
  simp [h1, h2, h3, h4, h5, sa, sb, sc, show 25 ≤ i from by omega]
theorem put_lt (x a b c : Nat) (hx : x < 4294967296) (ha : a < 32) (hb : b < 32) (hc : c < 32) : put x a b c < 4294967296 := by
  have h1 : x &&& 4261441663 < 2 ^ 32 := Nat.lt_of_le_of_lt Nat.and_le_left hx
  have h2 : a <<< 7 < 2 ^ 32 := by rw [Nat.shiftLeft_eq]; omega
  have h3 : b <<< 15 < 2 ^ 32 := by rw [Nat.shiftLeft_eq]; omega
  have h4 : c <<< 20 < 2 ^ 32 := by rw [Nat.shiftLeft_eq]; omega
  exact Nat.or_lt_two_pow (Nat.or_lt_two_pow (Nat.or_lt_two_pow h1 h2) h3) h4
theorem put_gets (x a b c : Nat) (hx : x < 4294967296) (ha : a < 32) (hb : b < 32) (hc : c < 32) :
    get (put x a b c) 7 5 = a ∧ get (put x a b c) 15 5 = b ∧ get (put x a b c) 20 5 = c ∧ get (put x a b c) 0 7 = x % 128 ∧ get (put x a b c) 25 7 = x / 33554432 := by
  refine ⟨?_, ?_, ?_, ?_, ?_⟩
  · apply Nat.eq_of_testBit_eq
    intro i
    rw [get_bit]
    by_cases h : i < 5
    · rw [put_bit x a b c (7 + i) (by omega) ha hb hc, if_neg (by omega), if_pos (by omega), Nat.add_sub_cancel_left]; simp [h]
    · rw [small a i ha (by omega)]; simp [h]
  · apply Nat.eq_of_testBit_eq
    intro i
    rw [get_bit]
    by_cases h : i < 5
    · rw [put_bit x a b c (15 + i) (by omega) ha hb hc, if_neg (by omega), if_neg (by omega), if_neg (by omega), if_pos (by omega), Nat.add_sub_cancel_left]; simp [h]
    · rw [small b i hb (by omega)]; simp [h]
  · apply Nat.eq_of_testBit_eq
    intro i
    rw [get_bit]
    by_cases h : i < 5
    · rw [put_bit x a b c (20 + i) (by omega) ha hb hc, if_neg (by omega), if_neg (by omega), if_neg (by omega), if_neg (by omega), if_pos (by omega), Nat.add_sub_cancel_left]; simp [h]
    · rw [small c i hc (by omega)]; simp [h]
  · apply Nat.eq_of_testBit_eq
    intro i
    rw [get_bit, show (128 : Nat) = 2 ^ 7 from rfl, Nat.testBit_mod_two_pow]
    by_cases h : i < 7
    · rw [put_bit x a b c (0 + i) (by omega) ha hb hc, if_pos (by omega)]; simp [h]
    · simp [h]
  · apply Nat.eq_of_testBit_eq
    intro i
    rw [get_bit, show (33554432 : Nat) = 2 ^ 25 from rfl, ← Nat.shiftRight_eq_div_pow, Nat.testBit_shiftRight]
    by_cases h : i < 7
    · rw [put_bit x a b c (25 + i) (by omega) ha hb hc, if_neg (by omega), if_neg (by omega), if_neg (by omega), if_neg (by omega), if_neg (by omega)]; simp [h]
    · rw [word_bit x (25 + i) hx (by omega)]; simp [h]
theorem put_bits (x a b c : Nat) (hx : x < 4294967296) (ha : a < 32) (hb : b < 32) (hc : c < 32) :
    bits .or .u32 (bits .or .u32 (bits .or .u32 (bits .andNot .u32 (x : Int) 33525632) ((a : Int) * 128)) ((b : Int) * 32768)) ((c : Int) * 1048576) = (put x a b c : Nat) := by
  have h1 : x &&& 4261441663 < 2 ^ 32 := Nat.lt_of_le_of_lt Nat.and_le_left hx
  have e0 := u32_andNot_nat x 33525632 hx (by omega)
  have ea : (a : Int) * (128 : Int) = ((a <<< 7 : Nat) : Int) := by rw [Nat.shiftLeft_eq]; omega
  have eb : (b : Int) * (32768 : Int) = ((b <<< 15 : Nat) : Int) := by rw [Nat.shiftLeft_eq]; omega
  have ec : (c : Int) * (1048576 : Int) = ((c <<< 20 : Nat) : Int) := by rw [Nat.shiftLeft_eq]; omega
  have h2 : a <<< 7 < 2 ^ 32 := by rw [Nat.shiftLeft_eq]; omega
  have h3 : b <<< 15 < 2 ^ 32 := by rw [Nat.shiftLeft_eq]; omega
  have h4 : c <<< 20 < 2 ^ 32 := by rw [Nat.shiftLeft_eq]; omega
  have h5 := Nat.or_lt_two_pow h1 h2
  have h6 := Nat.or_lt_two_pow h5 h3
  have e0' : bits .andNot .u32 (x : Int) 33525632 = ((x &&& 4261441663 : Nat) : Int) := e0
  rw [e0', ea, eb, ec, u32_or_nat _ _ h1 h2, u32_or_nat _ _ h5 h3, u32_or_nat _ _ h6 h4]; rfl

set_option maxHeartbeats 1000000 in
theorem walk (w : World) (a0 : Int) (w0 : (Lit.int .u32 a0).wf = true) (a1_0 : Int) (w1_0 : (Lit.int .u8 a1_0).wf = true) (a1_1 : Int) (w1_1 : (Lit.int .u8 a1_1).wf = true) (a1_2 : Int) (w1_2 : (Lit.int .u8 a1_2).wf = true) :
    Calls Try.prog 7 #[.int .u32 a0, .agg #[.int .u8 a1_0, .int .u8 a1_1, .int .u8 a1_2]] w fun e w' => e = .returned (.bool true) ∧ Below w.heap.size w w' := by
  have h0 := bounds_u32 w0
  have h1 := bounds_u8 w1_0
  have h2 := bounds_u8 w1_1
  have h3 := bounds_u8 w1_2
  clear w0 w1_0 w1_1 w1_2
  obtain ⟨x, rfl⟩ : ∃ x : Nat, a0 = x := ⟨a0.toNat, by omega⟩
  have hx : x < 4294967296 := by omega
  obtain ⟨a, ha, ea, _⟩ := b_and31 a1_0 h1
  obtain ⟨b, hb, eb, _⟩ := b_and31 a1_1 h2
  obtain ⟨c, hc, ec, _⟩ := b_and31 a1_2 h3
  have HR := Lib.hid (Row.fresh w 39 [.int .u8 a1_0, .int .u8 a1_1, .int .u8 a1_2])
  have HP := Lib.hid (put_gets x a b c hx ha hb hc)
  have ep := put_bits x a b c hx ha hb hc
  have hv := put_lt x a b c hx ha hb hc
  generalize put x a b c = v at *
  go_enter Try.func7, Try.ntmps7
  go_wp2_with fail
  refine (shown03_c _).mono ?_
  rintro e w1 ⟨rfl, hG⟩
  have hR := HR.out.grown hG (by simp)
  have c0 := hR.cell 0
  have c1 := hR.cell 1
  have c2 := hR.cell 2
  simp only [List.getElem?_cons_zero, List.getElem?_cons_succ] at c0 c1 c2
  clear HR
  go_wp2_with fail
  have l1 := get_lt x 7 5
  have l2 := get_lt x 15 5
  have l3 := get_lt x 20 5
  rw [show (2 : Nat) ^ 5 = 32 from rfl] at l1 l2 l3
  refine (Rd_c x hx _).mono ?_
  rintro e w2 ⟨rfl, d1, rfl⟩
  go_wp2_with fail
  refine (Rs1_c x hx _).mono ?_
  rintro e w2 ⟨rfl, d2, rfl⟩
  go_wp2_with fail
  refine (Rs2_c x hx _).mono ?_
  rintro e w2 ⟨rfl, d3, rfl⟩
  go_wp2_with fail
  refine (Rd_c x hx _).mono ?_
  rintro e w2 ⟨rfl, d4, rfl⟩
  generalize get x 7 5 = g1 at *
  generalize get x 15 5 = g2 at *
  generalize get x 20 5 = g3 at *
  go_wp2_with fail
  refine (Rd_c v hv _).mono ?_
  rintro e w2 ⟨rfl, d5, rfl⟩
  rw [HP.out.1]
  go_wp2_with fail
  refine (Rs1_c v hv _).mono ?_
  rintro e w2 ⟨rfl, d6, rfl⟩
  rw [HP.out.2.1]
  go_wp2_with fail
  refine (Rs2_c v hv _).mono ?_
  rintro e w2 ⟨rfl, d7, rfl⟩
  rw [HP.out.2.2.1]
  go_wp2_with fail
  refine (Get_c v 0 7 hv (by omega) (by omega) _).mono ?_
  rintro e w2 ⟨rfl, d8, rfl⟩
  rw [show gotV v 0 7 = get v 0 7 from gotV_nat v 0 7 (by omega), HP.out.2.2.2.1]
  go_wp2_with fail
  refine (Get_c v 25 7 hv (by omega) (by omega) _).mono ?_
  rintro e w2 ⟨rfl, d9, rfl⟩
  rw [show gotV v 25 7 = get v 25 7 from gotV_nat v 25 7 (by omega), HP.out.2.2.2.2]
  go_wp2_with fail
  go_ret
  exact ⟨rfl, below_drewN (gr_below (gr_trans (gr_alloc (gr_refl _ _) _) hG)) _⟩

theorem own : ownKnob Try.prog.godebug = none := by kernel_rfl
theorem laidOut : laidOutB Try.prog = true := by kernel_rfl

set_option maxRecDepth 100000 in
theorem lifted (os : Os) (started : os.Started) (H : Type) (enc : TypeId × Value → H) :
    ReturnsInHanded {} Try.checked os 7 .any (Rows.fieldRegistersSpec.pre6 enc Try.prog Try.f7 Rows.fieldRegistersRow.domain false) (Rows.fieldRegistersSpec.post enc Try.prog Try.f7 false true false false) := by
  refine returnsInHanded_of_change (C := Try.checked) own started (by kernel_rfl) Try.func7
    (ChangeSpec.witness6 (enc := enc) (C := Try.checked) false ⟨#[], #[.int .u32 0, .agg #[.int .u8 0, .int .u8 0, .int .u8 0]], []⟩ 8 (by kernel_rfl) (by kernel_rfl) (by kernel_rfl) (by kernel_rfl)) ?_
  intro W base args ds gs before hval0 hW hcnd _
  have hval : ∀ (j : Nat) t v, Try.f7.params[j]? = some t → args[j]? = some v → Value.okWide Try.prog W .any base t v := hval0
  have hW' := hW
  obtain ⟨p, q, hA0, hV, rfl, hfz, hnd⟩ := hW
  have hA : DataW.TrodAll enc Try.prog W 0 (fun _ => true) true Try.f7.params.toList args.toList ds p := hA0
  rw [Try.params7] at hA hval
  obtain ⟨v0, vs0, d0, ds0, p0, q0, hargs, rfl, rfl, h0, r0⟩ := trodAll_cons hA
  obtain ⟨v1, vs1, d1, ds1, p1, q1, rfl, rfl, rfl, h1, r1⟩ := trodAll_cons r0
  obtain ⟨rfl, rfl, rfl⟩ := trodAll_nil r1
  obtain rfl : args = #[v0, v1] := by cases args; simp_all
  obtain ⟨rfl, rfl⟩ := trodVars_none hV
  clear hA0 hval0 hA
  have k0 := h0
  have lt0 : ∀ x ∈ p0, x.block < W.heap.size := by obtain ⟨m, hm⟩ := k0; exact DataW.trod_lt m _ _ _ hm
  obtain ⟨a0, rfl, rfl, rfl, w0⟩ := open_int Try.underlying22 (hval 0 22 v0 rfl rfl) h0
  have k1 := h1
  have lt1 : ∀ x ∈ p1, x.block < W.heap.size := by obtain ⟨m, hm⟩ := k1; exact DataW.trod_lt m _ _ _ hm
  obtain ⟨xs1, rfl, l1, w1⟩ := Op.open_arr_int Try.underlying39 Try.underlying5 (by kernel_rfl) (by kernel_rfl) (hval 1 39 v1 rfl rfl) h1
  obtain _ | ⟨a1_0, xs1⟩ := xs1
  · simp at l1
  obtain _ | ⟨a1_1, xs1⟩ := xs1
  · simp at l1
  obtain _ | ⟨a1_2, xs1⟩ := xs1
  · simp at l1
  obtain _ | ⟨_, _⟩ := xs1
  rotate_left
  · simp at l1
  clear h1
  simp only [List.map_cons, List.map_nil] at *
  have w1_0 := w1 a1_0 (by simp)
  have w1_1 := w1 a1_1 (by simp)
  have w1_2 := w1 a1_2 (by simp)
  refine (walk W a0 w0 a1_0 w1_0 a1_1 w1_1 a1_2 w1_2).mono fun e W' ⟨he, bel⟩ => ?_
  subst he
  exact ⟨_, rfl, _, _, _, [], _, [], hW', trodAll_mk1 (shut_bool Try.underlying4 _), (trodAll_cons_mk (Below.trod laidOut (by kernel_rfl) (of_decide_eq_true (by kernel_rfl)) k0 bel lt0) (trodAll_cons_mk (Below.trod laidOut (by kernel_rfl) (of_decide_eq_true (by kernel_rfl)) k1 bel lt1) trodAll_mk0)), rfl, bel.frame _, fun h => by cases h⟩

theorem over : Rows.fieldRegistersRow.holds Try.pinned (OpenSpec.ofChange Rows.fieldRegistersSpec) :=
  OpenClaim.holds_of_wide 7 Try.f7 rfl rfl rfl rfl rfl rfl rfl ⟨rfl, rfl, rfl, rfl, rfl⟩ rfl rfl rfl rfl rfl (by kernel_rfl) Try.func7 (by kernel_rfl)
    (of_decide_eq_true (by kernel_rfl)) (by unfold Func.isWrapper; first | (rw [if_pos (by decide +kernel)]; kernel_rfl) | (rw [if_neg (by decide +kernel)]; exact ⟨rfl, rfl⟩))
    (fun os started H enc _ => lifted os started H enc)

/-- The statement. -/
theorem proved : Rows.FieldRegistersSaid := over
#print axioms proved

end Go.Proofs.Ytpoplagfhenabaa.fieldRegisters
