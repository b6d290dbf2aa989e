/-
  Proved: for any word and any three registers, the law EncRegisters returns true: an instruction of three registers with other registers has a word that differs in these bits alone.
  Conditions: none beyond the statement's own (its listed variables are tied to the program's text).
-/
import Derived.Test.YtpbeamnogfjagaaGreatDoorRows
import Derived.Test.YtpbeamnogfjagaaGreatDoorCards
import Derived.Test.YtpbeamnogfjagaaGreatDoorTie
import Derived.Test.YtpbeamnogfjagaaGreatDoorOpen
import Derived.Lib.Hide
import Derived.SevenTiedAt
import Derived.Test.YtpbeamnogfjagaaGreatDoorEncDoor
import Derived.Test.YtpbeamnogfjagaaGreatDoorEncSz
import Derived.Test.YtpbeamnogfjagaaGreatDoorDecR
namespace Go.Proofs.YtpbeamnogfjagaaGreatDoor.encRegisters
open Go Go.ChangeShapes Go.WideShapes Go.ChangeAt Go.RowKit F W M D E refWord
set_option linter.unusedVariables false

/-- Ops of three registers. -/
def Three (o : Int) : Prop := (31 ≤ o ∧ o ≤ 40) ∨ (45 ≤ o ∧ o ≤ 62)
theorem three_lim {o : Int} (h : Three o) (rd rs1 rs2 im : Int) : lim o rd rs1 rs2 im = (im = 0) := by
  rcases h with h | h
  · exact lim9 _ _ _ _ _ h
  · exact lim12 _ _ _ _ _ h
theorem three_num {o : Int} (h : Three o) (im : Int) : numW o im = 0 := by
  rcases h with h | h
  · exact num8 o im h
  · exact num10 o im ⟨h.1, by omega⟩
theorem three_clear {o : Int} (h : Three o) : thrOk o = true ∧ get (baseV o) 7 5 = 0 ∧ get (baseV o) 15 5 = 0 ∧ get (baseV o) 20 5 = 0 ∧ baseV o &&& 33525632 = 0 := by
  have k : ∀ a b : Nat, rng a b (fun o => thrOk o && decide (get (baseV o) 7 5 = 0 ∧ get (baseV o) 15 5 = 0 ∧ get (baseV o) 20 5 = 0 ∧ baseV o &&& 33525632 = 0)) = true → (a : Int) ≤ o ∧ o ≤ b → thrOk o = true ∧ get (baseV o) 7 5 = 0 ∧ get (baseV o) 15 5 = 0 ∧ get (baseV o) 20 5 = 0 ∧ baseV o &&& 33525632 = 0 := by
    intro a b hr ho
    have := rng_at hr o ho
    rw [Bool.and_eq_true] at this
    exact ⟨this.1, of_decide_eq_true this.2⟩
  rcases h with h | h
  · exact k 31 40 (by decide +kernel) h
  · exact k 45 62 (by decide +kernel) h
/-- The word of three registers. -/
theorem three_word {o : Int} (h : Three o) (a b c : Nat) (ha : a < 32) (hb : b < 32) (hc : c < 32) :
    okE o a b c 0 4 = true ∧ wordE o a b c 0 4 = put (baseV o) a b c 0 := by
  have hr : 0 ≤ o ∧ o ≤ 97 := by rcases h with h | h <;> omega
  have hcan : D.Can o ((a : Int), (b : Int), (c : Int), (0 : Int)) := by
    refine ⟨hr, ⟨by simp only; omega, by simp only; omega⟩, ⟨by simp only; omega, by simp only; omega⟩, ⟨by simp only; omega, by simp only; omega⟩, ?_⟩
    rw [three_lim h]
  have hk := (okE_iff o a b c 0 4).2 ⟨hcan, rfl⟩
  refine ⟨hk, ?_⟩
  rw [wordE, if_pos hk, layI_can _ _ _ _ _ hcan, layW]
  simp only [Int.toNat_natCast, three_num h]
theorem and_keep (B : Nat) (hB : B &&& 33525632 = 0) (hl : B < 4294967296) : B &&& 4261441663 = B := by
  apply Nat.eq_of_testBit_eq
  intro i
  rw [Nat.testBit_and]
  by_cases hi : i < 32
  · have h : (B &&& 33525632).testBit i = false := by rw [hB, Nat.zero_testBit]
    rw [Nat.testBit_and] at h
    have hk : ((33525632 : Nat).testBit i || (4261441663 : Nat).testBit i) = true := by
      have : ∀ i, i < 32 → ((33525632 : Nat).testBit i || (4261441663 : Nat).testBit i) = true := by decide +kernel
      exact this i hi
    cases h1 : B.testBit i
    · simp
    · rw [h1] at h
      simp only [Bool.true_and] at h
      rw [h] at hk
      simpa using hk
  · have : B.testBit i = false := Nat.testBit_lt_two_pow (Nat.lt_of_lt_of_le hl (Nat.pow_le_pow_right (n := 2) (by omega) (show 32 ≤ i by omega)))
    simp [this]
theorem clear7 : ∀ a, a < 32 → a <<< 7 &&& 4261441663 = 0 := by decide +kernel
theorem clear15 : ∀ a, a < 32 → a <<< 15 &&& 4261441663 = 0 := by decide +kernel
theorem clear20 : ∀ a, a < 32 → a <<< 20 &&& 4261441663 = 0 := by decide +kernel
theorem andNot_put (B a b c : Nat) (hB : B &&& 33525632 = 0) (hl : B < 4294967296) (ha : a < 32) (hb : b < 32) (hc : c < 32) :
    bits .andNot .u32 ((put B a b c 0 : Nat) : Int) 33525632 = (B : Int) := by
  have h1 := put_lt hl ha hb hc (show 0 < 4294967296 by decide)
  have e0 : bits .andNot .u32 ((put B a b c 0 : Nat) : Int) 33525632 = ((put B a b c 0 &&& 4261441663 : Nat) : Int) := u32_andNot_nat _ 33525632 h1 (by omega)
  rw [e0, put]
  simp only [Nat.and_or_distrib_right, Nat.or_zero, clear7 a ha, clear15 b hb, clear20 c hc, and_keep B hB hl]
theorem and31 {v a : Nat} (k : Nat) (hv : v < 4294967296) (h : v / 2 ^ k % 2 ^ 5 = a) : bits .and .u32 ((v : Int) / 2 ^ k) 31 = (a : Int) := by
  have e : (v : Int) / 2 ^ k = ((v / 2 ^ k : Nat) : Int) := by rw [cast_pow]; rfl
  have hl : v / 2 ^ k < 4294967296 := Nat.lt_of_le_of_lt (Nat.div_le_self _ _) hv
  have e2 := u32_and_nat (v / 2 ^ k) 31 hl (by omega)
  rw [e, show (31 : Int) = ((31 : Nat) : Int) from rfl, e2, show (31 : Nat) = 2 ^ 5 - 1 from rfl, Nat.and_two_pow_sub_one_eq_mod, h]
/-- What the law looks at. -/
theorem three_bits {o : Int} (h : Three o) (a b c : Nat) (ha : a < 32) (hb : b < 32) (hc : c < 32) :
    put (baseV o) a b c 0 < 4294967296 ∧ bits .andNot .u32 ((put (baseV o) a b c 0 : Nat) : Int) 33525632 = (baseV o : Int) ∧ get (put (baseV o) a b c 0) 7 5 = a ∧ get (put (baseV o) a b c 0) 15 5 = b ∧ get (put (baseV o) a b c 0) 20 5 = c := by
  obtain ⟨_, h1, h2, h3, h4⟩ := three_clear h
  exact ⟨put_lt (base_lt o) ha hb hc (by decide), andNot_put _ _ _ _ h4 (base_lt o) ha hb hc, put_rd h1 ha (get_zero _ _) hc hb, put_rs1 h2 ha (get_zero _ _) hc hb, put_rs2 h3 ha (get_zero _ _) hc hb⟩
set_option maxRecDepth 100000 in
set_option maxHeartbeats 4000000 in
theorem way_three (x : Nat) (hx : x < 4294967296) (r0 r1 r2 : Int) (h0 : 0 ≤ r0 ∧ r0 ≤ 255) (h1 : 0 ≤ r1 ∧ r1 ≤ 255) (h2 : 0 ≤ r2 ∧ r2 ≤ 255) (o rd rs1 rs2 im : Int) (hV : D.wordV x = (o, rd, rs1, rs2, im)) (h3 : Three o) (w : World) (hL : Tabs w) :
    Calls Tryz.prog 7 #[.int .u32 x, .agg #[.int .u8 r0, .int .u8 r1, .int .u8 r2]] w fun e w' => e = .returned (.bool true) ∧ Below w.heap.size w w' := by
  have hC := word_can x
  rw [hV] at hC
  have HX := Lib.hid (fun W => rWord_at hx hV W)
  clear hV
  obtain ⟨i0, i1, i2, i3, i4⟩ := can_i64 hC
  obtain ⟨_, g1, g2, g3, gl⟩ := hC
  simp only at g1 g2 g3 gl
  rw [three_lim h3] at gl
  subst gl
  obtain ⟨q1, rfl⟩ : ∃ n : Nat, rd = n := ⟨rd.toNat, by omega⟩
  obtain ⟨q2, rfl⟩ : ∃ n : Nat, rs1 = n := ⟨rs1.toNat, by omega⟩
  obtain ⟨q3, rfl⟩ : ∃ n : Nat, rs2 = n := ⟨rs2.toNat, by omega⟩
  obtain ⟨a, ha, ea, _⟩ := b_and31 r0 h0
  obtain ⟨b, hb, eb, _⟩ := b_and31 r1 h1
  obtain ⟨c, hc, ec, _⟩ := b_and31 r2 h2
  have HK := Lib.hid (show kindV o = 6 ∨ kindV o = 8 ∨ kindV o = 9 ∨ kindV o = 10 from by
    rcases (show (31 ≤ o ∧ o ≤ 40) ∨ (45 ≤ o ∧ o ≤ 49) ∨ (50 ≤ o ∧ o ≤ 57) ∨ (58 ≤ o ∧ o ≤ 62) by rcases h3 with h | h <;> omega) with k | k | k | k
    · exact Or.inl (kind6 k)
    · exact Or.inr (Or.inl (kind8 k))
    · exact Or.inr (Or.inr (Or.inl (kind9 k)))
    · exact Or.inr (Or.inr (Or.inr (kind10 k))))
  obtain ⟨y1, y2⟩ := three_word h3 q1 q2 q3 (by omega) (by omega) (by omega)
  obtain ⟨z1, z2⟩ := three_word h3 a b c ha hb hc
  have HW1 := Lib.hid (fun W h => Word_e o q1 q2 q3 0 4 i0 i1 i2 i3 i4 W h)
  have HW2 := Lib.hid (fun W h => Word_e o a b c 0 4 i0 (by constructor <;> omega) (by constructor <;> omega) (by constructor <;> omega) i4 W h)
  rw [y1, y2] at HW1
  rw [z1, z2] at HW2
  obtain ⟨s1, s2, _, _, _⟩ := three_bits h3 q1 q2 q3 (by omega) (by omega) (by omega)
  obtain ⟨t1, t2, t3, t4, t5⟩ := three_bits h3 a b c ha hb hc
  have HR := Lib.hid (rKind_c o i0)
  generalize put (baseV o) q1 q2 q3 0 = v1 at *
  generalize put (baseV o) a b c 0 = v2 at *
  generalize ((baseV o : Nat) : Int) = bb at *
  rw [get_div] at t3 t4 t5
  have S2 := Lib.hid s2
  have T2 := Lib.hid t2
  have E1 := Lib.hid ea
  have E2 := Lib.hid eb
  have E3 := Lib.hid ec
  clear y1 y2 z1 z2 s2 t2
  have HB := Lib.hid (Row.fresh w 37 [.int .u8 r0, .int .u8 r1, .int .u8 r2])
  go_enter Tryz.func7, Tryz.ntmps7
  go_wp2_with fail
  refine (shown06_c _ (hL.grown (gr_alloc (gr_refl _ _) _))).mono ?_
  rintro e w1 ⟨rfl, hG1⟩
  go_wp2_with fail
  refine (HX.out _).mono ?_
  rintro e w2 ⟨rfl, hG2⟩
  have hS2 := HB.out.grown (gr_trans hG1 hG2) (by simp)
  have hGw : w.grownBy w2 none := gr_trans (gr_trans (gr_alloc (gr_refl _ _) _) hG1) hG2
  go_wp2_with fail
  refine (HR.out _).mono ?_
  rintro e wk ⟨rfl, hGk⟩
  have hRk := (Row.fresh w2 23 [.int .i64 o, .int .i64 (q1 : Int), .int .i64 (q2 : Int), .int .i64 (q3 : Int), .int .i64 0, .int .i64 4]).grown hGk (by simp)
  have hRb := (hS2.alloc (.cells #[.int .i64 o, .int .i64 (q1 : Int), .int .i64 (q2 : Int), .int .i64 (q3 : Int), .int .i64 0, .int .i64 4] 23)).grown hGk (by simp)
  have hGw2 := gr_trans (gr_alloc hGw (.cells #[.int .i64 o, .int .i64 (q1 : Int), .int .i64 (q2 : Int), .int .i64 (q3 : Int), .int .i64 0, .int .i64 4] 23)) hGk
  have hne : w.heap.size ≠ w2.heap.size := by have := hS2.lt; omega
  have hle : w.heap.size ≤ w2.heap.size := hGw.size
  clear hS2 hG1 hG2 hGk hGw HX HB
  generalize w2.heap.size = bx at *
  have c0 := hRk.cell 0
  have c1 := hRk.cell 1
  have c2 := hRk.cell 2
  have c3 := hRk.cell 3
  have c4 := hRk.cell 4
  have c5 := hRk.cell 5
  simp only [List.getElem?_cons_zero, List.getElem?_cons_succ] at c0 c1 c2 c3 c4 c5
  have k4 := HK.out
  clear HK
  generalize kindV o = k at *
  have HT := Lib.hid (hL.grown hGw2)
  have HLw := Lib.hid hL
  clear hL HR
  have hkb : (k != 6 && k != 8 && k != 9 && k != 10) = false := by rcases k4 with rfl | rfl | rfl | rfl <;> rfl
  rcases k4 with rfl | rfl | rfl | rfl
  all_goals
    go_wp2_with fail
    refine (HW1.out _ HT.out.1).mono ?_
    rintro e w3 ⟨rfl, hG3⟩
    have hR3 := hRk.grown hG3 (by simp)
    have hB3 := hRb.grown hG3 (by simp)
    have hG33 := gr_trans hGw2 hG3
    clear c0 c1 c2 c3 c4 c5
    have c0 := hR3.cell 0
    have c1 := hR3.cell 1
    have c2 := hR3.cell 2
    have c3 := hR3.cell 3
    have c4 := hR3.cell 4
    have c5 := hR3.cell 5
    have d0 := hB3.cell 0
    have d1 := hB3.cell 1
    have d2 := hB3.cell 2
    simp only [List.getElem?_cons_zero, List.getElem?_cons_succ] at c0 c1 c2 c3 c4 c5 d0 d1 d2
    have f1 := hR3.free 1
    have hP1 := hR3.put 1 (.int .i64 (a : Int))
    have f2 := hP1.free 2
    have hP2 := hP1.put 2 (.int .i64 (b : Int))
    have f3 := hP2.free 3
    have hP3 := hP2.put 3 (.int .i64 (c : Int))
    have e1 := (hB3.other (a := ⟨bx, 1, none⟩) hne (.int .i64 (a : Int))).cell 1
    have e2 := ((hB3.other (a := ⟨bx, 1, none⟩) hne (.int .i64 (a : Int))).other (a := ⟨bx, 2, none⟩) hne (.int .i64 (b : Int))).cell 2
    have m0 := hP3.cell 0
    have m1 := hP3.cell 1
    have m2 := hP3.cell 2
    have m3 := hP3.cell 3
    have m4 := hP3.cell 4
    have m5 := hP3.cell 5
    simp only [List.set_cons_zero, List.set_cons_succ, List.getElem?_cons_zero, List.getElem?_cons_succ] at e1 e2 m0 m1 m2 m3 m4 m5
    have hGf : w.grownBy (((w3.setCell ⟨bx, 1, none⟩ (.int .i64 (a : Int))).setCell ⟨bx, 2, none⟩ (.int .i64 (b : Int))).setCell ⟨bx, 3, none⟩ (.int .i64 (c : Int))) none := gr_row (gr_set (gr_set (gr_set (gr_none hG33 (some bx)) _) _) _) hle
    have HTf := Lib.hid (HT.out.grown hG3)
    clear hP1 hP2 hR3 hB3 hRk hRb hG3
    go_wp2_with fail
    refine (HW2.out _ (HLw.out.grown hGf).1).mono ?_
    rintro e w4 ⟨rfl, hG4⟩
    have hP4 := hP3.grown hG4 (by simp)
    have hB4 := gr_below (gr_trans hGf hG4)
    have j1 := hP4.cell 1
    have j2 := hP4.cell 2
    have j3 := hP4.cell 3
    simp only [List.set_cons_zero, List.set_cons_succ, List.getElem?_cons_zero, List.getElem?_cons_succ] at j1 j2 j3
    have s2 := S2.out
    have t2 := T2.out
    have u1 := and31 7 t1 t3
    have u2 := and31 15 t1 t4
    have u3 := and31 20 t1 t5
    rw [show (2 : Int) ^ 7 = 128 from rfl] at u1
    rw [show (2 : Int) ^ 15 = 32768 from rfl] at u2
    rw [show (2 : Int) ^ 20 = 1048576 from rfl] at u3
    clear c0 c1 c2 c3 c4 c5 d0 d1 d2 e1 e2 f1 f2 f3 m0 m1 m2 m3 m4 m5 hP3 hP4 hGf hG4 S2 T2
    go_wp2_with fail
    go_ret
    exact ⟨rfl, hB4⟩
set_option maxRecDepth 100000 in
set_option maxHeartbeats 4000000 in
theorem way_no (x : Nat) (hx : x < 4294967296) (r0 r1 r2 : Int) (o rd rs1 rs2 im : Int) (hV : D.wordV x = (o, rd, rs1, rs2, im)) (h3 : ¬ Three o) (w : World) (hL : Tabs w) :
    Calls Tryz.prog 7 #[.int .u32 x, .agg #[.int .u8 r0, .int .u8 r1, .int .u8 r2]] w fun e w' => e = .returned (.bool true) ∧ Below w.heap.size w w' := by
  have hC := word_can x
  rw [hV] at hC
  have HX := Lib.hid (fun W => rWord_at hx hV W)
  clear hV
  obtain ⟨i0, i1, i2, i3, i4⟩ := can_i64 hC
  have hr := hC.1
  have HR := Lib.hid (rKind_c o i0)
  have hk : (kindV o == 6) = false ∧ (kindV o == 8) = false ∧ (kindV o == 9) = false ∧ (kindV o == 10) = false := by
    unfold Three at h3
    rcases (show o ≤ 0 ∨ (1 ≤ o ∧ o ≤ 4) ∨ (5 ≤ o ∧ o ≤ 10) ∨ (11 ≤ o ∧ o ≤ 17) ∨ (18 ≤ o ∧ o ≤ 21) ∨ (22 ≤ o ∧ o ≤ 30) ∨ (41 ≤ o ∧ o ≤ 44) ∨ (63 ≤ o ∧ o ≤ 69) ∨ (70 ≤ o ∧ o ≤ 75) ∨ (76 ≤ o ∧ o ≤ 86) ∨ (87 ≤ o ∧ o ≤ 97) by omega) with k | k | k | k | k | k | k | k | k | k | k
    · rw [kind0 k]; decide
    · rw [kind1 k]; decide
    · rw [kind2 k]; decide
    · rw [kind3 k]; decide
    · rw [kind4 k]; decide
    · rw [kind5 k]; decide
    · rw [kind7 k]; decide
    · rw [kind11 k]; decide
    · rw [kind12 k]; decide
    · rw [kind13 k]; decide
    · rw [kind14 k]; decide
  generalize kindV o = k at *
  obtain ⟨n1, n2, n3, n4⟩ := hk
  have m1 : (k != 6) = true := by simpa [bne] using n1
  have m2 : (k != 8) = true := by simpa [bne] using n2
  have m3 : (k != 9) = true := by simpa [bne] using n3
  have m4 : (k != 10) = true := by simpa [bne] using n4
  clear hC i0 i1 i2 i3 i4 h3 hr
  go_enter Tryz.func7, Tryz.ntmps7
  go_wp2_with fail
  refine (shown06_c _ (hL.grown (gr_alloc (gr_refl _ _) _))).mono ?_
  rintro e w1 ⟨rfl, hG1⟩
  go_wp2_with fail
  refine (HX.out _).mono ?_
  rintro e w2 ⟨rfl, hG2⟩
  have hGw : w.grownBy w2 none := gr_trans (gr_trans (gr_alloc (gr_refl _ _) _) hG1) hG2
  go_wp2_with fail
  refine (HR.out _).mono ?_
  rintro e wk ⟨rfl, hGk⟩
  have hBe := gr_below (gr_trans (gr_alloc hGw (.cells #[.int .i64 o, .int .i64 rd, .int .i64 rs1, .int .i64 rs2, .int .i64 im, .int .i64 4] 23)) hGk)
  clear hG1 hG2 hGw hGk HX HR
  go_wp2_with fail
  go_ret
  exact ⟨rfl, hBe⟩
theorem walk (w : World) (hL : Tabs w) (a0 : Int) (w0 : (Lit.int .u32 a0).wf = true) (a1_0 : Int) (w1_0 : (Lit.int .u8 a1_0).wf = true) (a1_1 : Int) (w1_1 : (Lit.int .u8 a1_1).wf = true) (a1_2 : Int) (w1_2 : (Lit.int .u8 a1_2).wf = true) :
    Calls Tryz.prog 7 #[.int .u32 a0, .agg #[.int .u8 a1_0, .int .u8 a1_1, .int .u8 a1_2]] w fun e w' => e = .returned (.bool true) ∧ Below w.heap.size w w' := by
  have h0 := bounds_u32 w0
  have b0 := bounds_u8 w1_0
  have b1 := bounds_u8 w1_1
  have b2 := bounds_u8 w1_2
  obtain ⟨x, rfl⟩ : ∃ x : Nat, a0 = x := ⟨a0.toNat, by omega⟩
  have hx : x < 4294967296 := by omega
  obtain ⟨o, rd, rs1, rs2, im, hV⟩ : ∃ o rd rs1 rs2 im, D.wordV x = (o, rd, rs1, rs2, im) := ⟨_, _, _, _, _, rfl⟩
  by_cases h3 : Three o
  · exact way_three x hx _ _ _ b0 b1 b2 o rd rs1 rs2 im hV h3 w hL
  · exact way_no x hx _ _ _ o rd rs1 rs2 im hV h3 w hL

theorem own : ownKnob Tryz.prog.godebug = none := by kernel_rfl
theorem laidOut : laidOutB Tryz.prog = true := by kernel_rfl

set_option maxRecDepth 100000 in
theorem lifted (os : Os) (started : os.Started) (H : Type) (enc : TypeId × Value → H) :
    ReturnsInHanded {} Tryz.checked os 7 .any (fun w args => (Rows.encRegistersSpec.pre enc Tryz.prog Tryz.f7 [] false w args ∧ laidMetH Tryz.prog laidL w) ∧ sizedMet enc Tryz.prog Tryz.f7 (OpenSpec.ofChange Rows.encRegistersSpec) false w args)
      (Rows.encRegistersSpec.post enc Tryz.prog Tryz.f7 false true false false) := by
  refine returnsInHanded_of_change_and (C := Tryz.checked) (X := fun w _ => laidMetH Tryz.prog laidL w) (fun _ _ _ hh h => h.of_heap hh) own started (by kernel_rfl) Tryz.func7
    (ChangeSpec.witness_shaped (enc := enc) (C := Tryz.checked) (os := os) (X := fun w _ => laidMetH Tryz.prog laidL w) false (World.doorLaid Tryz.prog 400 os) #[.int .u32 0, .agg #[.int .u8 0, .int .u8 0, .int .u8 0]] 8 rfl (World.shaped_of_RefB (by kernel_rfl) (by kernel_rfl)) (by kernel_rfl) (by kernel_rfl) (by kernel_rfl) (door_met os _)) ?_
  intro W base args ds gs before hval0 hW _ _ hL _
  have hval : ∀ (j : Nat) t v, Tryz.f7.params[j]? = some t → args[j]? = some v → Value.okWide Tryz.prog W .any base t v := hval0
  have hW' := hW
  obtain ⟨p, q, hA0, hV, rfl, hfz, hnd⟩ := hW
  have hA : DataW.TrodAll enc Tryz.prog W 0 (fun _ => true) true Tryz.f7.params.toList args.toList ds p := hA0
  rw [Tryz.params7] at hA hval
  obtain ⟨v0, vs0, d0, ds0, p0, q0, hargs, rfl, rfl, h0, r0⟩ := trodAll_cons hA
  obtain ⟨v1, vs1, d1, ds1, p1, q1, rfl, rfl, rfl, h1, r1⟩ := trodAll_cons r0
  obtain ⟨rfl, rfl, rfl⟩ := trodAll_nil r1
  obtain rfl : args = #[v0, v1] := by cases args; simp_all
  obtain ⟨rfl, rfl⟩ := trodVars_none hV
  clear hA0 hval0 hA
  have k0 := h0
  have lt0 : ∀ x ∈ p0, x.block < W.heap.size := by obtain ⟨m, hm⟩ := k0; exact DataW.trod_lt m _ _ _ hm
  obtain ⟨a0, rfl, rfl, rfl, w0⟩ := open_int Tryz.underlying25 (hval 0 25 v0 rfl rfl) h0
  have k1 := h1
  have lt1 : ∀ x ∈ p1, x.block < W.heap.size := by obtain ⟨m, hm⟩ := k1; exact DataW.trod_lt m _ _ _ hm
  obtain ⟨xs1, rfl, l1, w1⟩ := Op.open_arr_int Tryz.underlying37 Tryz.underlying5 (by kernel_rfl) (by kernel_rfl) (hval 1 37 v1 rfl rfl) h1
  obtain _ | ⟨a1_0, xs1⟩ := xs1
  · simp at l1
  obtain _ | ⟨a1_1, xs1⟩ := xs1
  · simp at l1
  obtain _ | ⟨a1_2, xs1⟩ := xs1
  · simp at l1
  obtain _ | ⟨_, _⟩ := xs1
  rotate_left
  · simp at l1
  clear h1
  simp only [List.map_cons, List.map_nil] at *
  have w1_0 := w1 a1_0 (by simp)
  have w1_1 := w1 a1_1 (by simp)
  have w1_2 := w1 a1_2 (by simp)
  refine (walk W (of_laid hL) a0 w0 a1_0 w1_0 a1_1 w1_1 a1_2 w1_2).mono fun e W' ⟨he, bel⟩ => ?_
  subst he
  exact ⟨_, rfl, _, _, _, [], _, [], hW', trodAll_mk1 (shut_bool Tryz.underlying4 _), (trodAll_cons_mk (Below.trod laidOut (by kernel_rfl) (of_decide_eq_true (by kernel_rfl)) k0 bel lt0) (trodAll_cons_mk (Below.trod laidOut (by kernel_rfl) (of_decide_eq_true (by kernel_rfl)) k1 bel lt1) trodAll_mk0)), rfl, bel.frame _, fun h => by cases h⟩

theorem over : Rows.EncRegistersSaid :=
  OpenClaim.holds_of_wide 7 Tryz.f7 rfl rfl rfl rfl rfl rfl rfl ⟨rfl, rfl, rfl, rfl, rfl⟩ rfl rfl rfl rfl rfl (by kernel_rfl) Tryz.func7 (by kernel_rfl)
    (of_decide_eq_true (by kernel_rfl)) (by unfold Func.isWrapper; first | (rw [if_pos (by decide +kernel)]; kernel_rfl) | (rw [if_neg (by decide +kernel)]; exact ⟨rfl, rfl⟩))
    (fun os started H enc _ => lifted os started H enc)

/-- The statement: the card, its listed variable tied to the program's text. -/
theorem proved : Rows.EncRegistersCardSaid :=
  Claim7.holds_tied_plain_at .later [] [.data, .data, .data, .data, .data, .data] true (true, "82b3145cddd84957564239319662a7f032c6bc35cca285d7f35570caedf0bb32") false
    over (fun _ h => by cases h) (by kernel_rfl) (fun _ h => by cases h) encRegisters_row_tie rfl ⟨rfl, rfl⟩ (by kernel_rfl) rfl
    (fun f fn hf hfn => by
      obtain rfl : f = 7 := Option.some.inj ((show Tryz.prog.funcNamed "suzerain/suzerainlaw06.EncRegisters" = some 7 by kernel_rfl).symm.trans hf) |>.symm
      obtain rfl : fn = Tryz.f7 := (Option.some.inj (Tryz.func7.symm.trans hfn)).symm
      exact ⟨by kernel_rfl, fun j t ht => by
        rw [Tryz.params7] at ht
        have hm : t ∈ [25, 37] := by simpa using Array.mem_of_getElem? ht
        have hall : ([25, 37].all fun u => !Tryz.prog.wantsStandIn u) = true := by kernel_rfl
        exact (show Tryz.prog.wantsStandIn t = false by simpa using List.all_eq_true.1 hall t hm)⟩)
    (by kernel_rfl)
#print axioms proved

end Go.Proofs.YtpbeamnogfjagaaGreatDoor.encRegisters
