/-
  Proved: for any bytes, the law DecodeShifts returns true: a shift by a number shifts by less than 64, or than 32 of 32 bits, and with another bit beyond it is none.
  Conditions: none beyond the statement's own.
-/
import Derived.Test.YtdcihcmhmgeheaaRows
import Derived.Test.YtdcihcmhmgeheaaOpen
import Derived.Lib.Hide
import Derived.Test.YtdcihcmhmgeheaaDecS
import Derived.Test.YtdcihcmhmgeheaaDecP
import Derived.Test.YtdcihcmhmgeheaaWordS
namespace Go.Proofs.Ytdcihcmhmgeheaa.decodeShifts
open Go Go.ChangeShapes Go.WideShapes Go.ChangeAt Go.RowKit F W M D
set_option linter.unusedVariables false

theorem b_and63 (v : Int) (h : 0 ≤ v ∧ v ≤ 255) : ∃ k : Nat, k < 64 ∧ bits .and .u8 v 63 = (k : Int) :=
  ⟨(v % 64).toNat, by omega, by rw [and63b v h]; omega⟩
theorem pow_26 (j : Nat) (hj : j < 4) : (2 : Int) ^ (26 + j) % 4294967296 = ((2 ^ (26 + j) : Nat) : Int) := by
  rcases (show j = 0 ∨ j = 1 ∨ j = 2 ∨ j = 3 by omega) with rfl | rfl | rfl | rfl <;> decide

set_option maxRecDepth 100000 in
set_option maxHeartbeats 4000000 in
theorem walk (w : World) (a0_0 : Int) (w0_0 : (Lit.int .u8 a0_0).wf = true) (a0_1 : Int) (w0_1 : (Lit.int .u8 a0_1).wf = true) (a1_0 : Int) (w1_0 : (Lit.int .u8 a1_0).wf = true) (a1_1 : Int) (w1_1 : (Lit.int .u8 a1_1).wf = true) (a2_0 : Int) (w2_0 : (Lit.int .u8 a2_0).wf = true) (a2_1 : Int) (w2_1 : (Lit.int .u8 a2_1).wf = true) :
    Calls Try.prog 4 #[.agg #[.int .u8 a0_0, .int .u8 a0_1], .agg #[.int .u8 a1_0, .int .u8 a1_1], .agg #[.int .u8 a2_0, .int .u8 a2_1]] w fun e w' => e = .returned (.bool true) ∧ Below w.heap.size w w' := by
  have h1 := bounds_u8 w0_0
  have h2 := bounds_u8 w0_1
  have h3 := bounds_u8 w1_0
  have h5 := bounds_u8 w2_0
  have h6 := bounds_u8 w2_1
  clear w0_0 w0_1 w1_0 w1_1 w2_0 w2_1
  obtain ⟨a, ha, ea, _⟩ := b_and31 a0_0 h1
  obtain ⟨b, hb, eb, _⟩ := b_and31 a0_1 h2
  obtain ⟨n, hn, en⟩ := b_and63 a1_0 h3
  have hi : a2_0 % 6 = 0 ∨ a2_0 % 6 = 1 ∨ a2_0 % 6 = 2 ∨ a2_0 % 6 = 3 ∨ a2_0 % 6 = 4 ∨ a2_0 % 6 = 5 := by omega
  obtain ⟨j, hj, ej⟩ : ∃ j : Nat, j < 4 ∧ a2_1 % 4 = (j : Int) := ⟨(a2_1 % 4).toNat, by omega, by omega⟩
  have R0 := Lib.hid (((Row.fresh w 28 [.int .u8 a0_0, .int .u8 a0_1]).alloc (.cells #[.int .u8 a1_0, .int .u8 a1_1] 28)).alloc (.cells #[.int .u8 a2_0, .int .u8 a2_1] 28))
  have R1 := Lib.hid (by
    have h := (Row.fresh (w.alloc (.cells #[.int .u8 a0_0, .int .u8 a0_1] 28)) 28 [.int .u8 a1_0, .int .u8 a1_1]).alloc (.cells #[.int .u8 a2_0, .int .u8 a2_1] 28)
    rw [World.size_alloc] at h
    exact h)
  have R2 := Lib.hid (by
    have h := Row.fresh ((w.alloc (.cells #[.int .u8 a0_0, .int .u8 a0_1] 28)).alloc (.cells #[.int .u8 a1_0, .int .u8 a1_1] 28)) 28 [.int .u8 a2_0, .int .u8 a2_1]
    rw [World.size_alloc, World.size_alloc] at h
    exact h)
  rcases hi with ei | ei | ei | ei | ei | ei
  · have eo := sw_or 4115 a b n (by decide) ha hb hn
    have HW := Lib.hid (sw19 4115 a b n 1 0 28 (by decide) ha hb hn (by decide) (by decide) (by decide) (by decide) (by decide) (by decide))
    have HB := sw_bit 4115 a b n j (by decide) ha hb hn hj
    have HN := Lib.hid (sw19_no 4115 a b n j (by decide) ha hb hn hj (by decide) (by decide))
    have hl := sw_lt 4115 a b n (by decide) ha hb hn
    generalize sw 4115 a b n = x at *
    rw [show ((4115 : Nat) : Int) = 4115 from rfl] at eo
    obtain ⟨eb2, hb2⟩ := HB
    have EB := Lib.hid (show bits .or .u32 (x : Int) (2 ^ (26 + j) % 4294967296) = ((x + 67108864 * 2 ^ j : Nat) : Int) by rw [pow_26 j hj]; exact eb2)
    clear eb2
    generalize x + 67108864 * 2 ^ j = y at *
    go_enter Try.func4, Try.ntmps4
    go_wp2_with fail
    refine (shown04_c _).mono ?_
    rintro e w1 ⟨rfl, hG1⟩
    have G1 := Lib.hid hG1
    clear hG1
    have q0 := R0.out.grown G1.out (by simp)
    have q1 := R1.out.grown G1.out (by simp)
    have q2 := R2.out.grown G1.out (by simp)
    have l0 := q0.lt
    have l1 := q1.lt
    have l2 := q2.lt
    have c00 := q0.cell 0
    have c01 := q0.cell 1
    have c10 := q1.cell 0
    have c20 := q2.cell 0
    simp only [List.getElem?_cons_zero, List.getElem?_cons_succ] at c00 c01 c10 c20
    have Q2 := Lib.hid (q2.alloc (.cells #[.int .u32 4115, .int .u32 20499, .int .u32 1073762323, .int .u32 4123, .int .u32 20507, .int .u32 1073762331] 22) |>.alloc (.cells #[.int .i64 28, .int .i64 29, .int .i64 30, .int .i64 42, .int .i64 43, .int .i64 44] 3))
    have QO := Lib.hid (by
      have h := Row.fresh (w1.alloc (.cells #[.int .u32 4115, .int .u32 20499, .int .u32 1073762323, .int .u32 4123, .int .u32 20507, .int .u32 1073762331] 22)) 3 [.int .i64 28, .int .i64 29, .int .i64 30, .int .i64 42, .int .i64 43, .int .i64 44]
      rw [World.size_alloc] at h
      exact h)
    clear q0 q1 q2
    go_wp2_with fail
    refine (Word_at (by omega) HW.out _).mono ?_
    rintro e w2 ⟨rfl, hG2⟩
    have G2 := Lib.hid hG2
    clear hG2 c00 c01 c10 c20
    have q2 := Q2.out.grown G2.out (by simp)
    have qo := QO.out.grown G2.out (by simp)
    have l3 := q2.lt
    have l4 := qo.lt
    have c21 := q2.cell 1
    have co := qo.cell 0
    simp only [List.getElem?_cons_zero, List.getElem?_cons_succ] at c21 co
    have QY := Lib.hid (Row.fresh w2 25 [.int .i64 28, .int .i64 (a : Int), .int .i64 (b : Int), .int .i64 0, .int .i64 (n : Int), .int .i64 4])
    have QP := Lib.hid (qo.alloc (.cells #[.int .i64 28, .int .i64 (a : Int), .int .i64 (b : Int), .int .i64 0, .int .i64 (n : Int), .int .i64 4] 25))
    clear q2 qo
    go_wp2_with fail
    rw [EB.out]
    refine (Word_at hb2 HN.out _).mono ?_
    rintro e w3 ⟨rfl, hG3⟩
    have G3 := Lib.hid hG3
    clear hG3
    have qy := QY.out.grown G3.out (by simp)
    have qp := QP.out.grown G3.out (by simp)
    have l5 := qy.lt
    have l6 := qp.lt
    have y0 := qy.cell 0
    have y1 := qy.cell 1
    have y2 := qy.cell 2
    have y3 := qy.cell 3
    have y4 := qy.cell 4
    have y5 := qy.cell 5
    have cp := qp.cell 0
    simp only [List.getElem?_cons_zero, List.getElem?_cons_succ] at y0 y1 y2 y3 y4 y5 cp
    clear qy qp
    go_wp2_with fail
    go_ret
    exact ⟨rfl, gr_below (gr_alloc (gr_alloc (gr_trans (gr_alloc (gr_trans (gr_alloc (gr_alloc (gr_trans (gr_alloc (gr_alloc (gr_alloc (gr_refl _ _) _) _) _) G1.out) _) _) G2.out) _) G3.out) _) _)⟩
  · have eo := sw_or 20499 a b n (by decide) ha hb hn
    have HW := Lib.hid (sw19 20499 a b n 5 0 29 (by decide) ha hb hn (by decide) (by decide) (by decide) (by decide) (by decide) (by decide))
    have HB := sw_bit 20499 a b n j (by decide) ha hb hn hj
    have HN := Lib.hid (sw19_no 20499 a b n j (by decide) ha hb hn hj (by decide) (by decide))
    have hl := sw_lt 20499 a b n (by decide) ha hb hn
    generalize sw 20499 a b n = x at *
    rw [show ((20499 : Nat) : Int) = 20499 from rfl] at eo
    obtain ⟨eb2, hb2⟩ := HB
    have EB := Lib.hid (show bits .or .u32 (x : Int) (2 ^ (26 + j) % 4294967296) = ((x + 67108864 * 2 ^ j : Nat) : Int) by rw [pow_26 j hj]; exact eb2)
    clear eb2
    generalize x + 67108864 * 2 ^ j = y at *
    go_enter Try.func4, Try.ntmps4
    go_wp2_with fail
    refine (shown04_c _).mono ?_
    rintro e w1 ⟨rfl, hG1⟩
    have G1 := Lib.hid hG1
    clear hG1
    have q0 := R0.out.grown G1.out (by simp)
    have q1 := R1.out.grown G1.out (by simp)
    have q2 := R2.out.grown G1.out (by simp)
    have l0 := q0.lt
    have l1 := q1.lt
    have l2 := q2.lt
    have c00 := q0.cell 0
    have c01 := q0.cell 1
    have c10 := q1.cell 0
    have c20 := q2.cell 0
    simp only [List.getElem?_cons_zero, List.getElem?_cons_succ] at c00 c01 c10 c20
    have Q2 := Lib.hid (q2.alloc (.cells #[.int .u32 4115, .int .u32 20499, .int .u32 1073762323, .int .u32 4123, .int .u32 20507, .int .u32 1073762331] 22) |>.alloc (.cells #[.int .i64 28, .int .i64 29, .int .i64 30, .int .i64 42, .int .i64 43, .int .i64 44] 3))
    have QO := Lib.hid (by
      have h := Row.fresh (w1.alloc (.cells #[.int .u32 4115, .int .u32 20499, .int .u32 1073762323, .int .u32 4123, .int .u32 20507, .int .u32 1073762331] 22)) 3 [.int .i64 28, .int .i64 29, .int .i64 30, .int .i64 42, .int .i64 43, .int .i64 44]
      rw [World.size_alloc] at h
      exact h)
    clear q0 q1 q2
    go_wp2_with fail
    refine (Word_at (by omega) HW.out _).mono ?_
    rintro e w2 ⟨rfl, hG2⟩
    have G2 := Lib.hid hG2
    clear hG2 c00 c01 c10 c20
    have q2 := Q2.out.grown G2.out (by simp)
    have qo := QO.out.grown G2.out (by simp)
    have l3 := q2.lt
    have l4 := qo.lt
    have c21 := q2.cell 1
    have co := qo.cell 1
    simp only [List.getElem?_cons_zero, List.getElem?_cons_succ] at c21 co
    have QY := Lib.hid (Row.fresh w2 25 [.int .i64 29, .int .i64 (a : Int), .int .i64 (b : Int), .int .i64 0, .int .i64 (n : Int), .int .i64 4])
    have QP := Lib.hid (qo.alloc (.cells #[.int .i64 29, .int .i64 (a : Int), .int .i64 (b : Int), .int .i64 0, .int .i64 (n : Int), .int .i64 4] 25))
    clear q2 qo
    go_wp2_with fail
    rw [EB.out]
    refine (Word_at hb2 HN.out _).mono ?_
    rintro e w3 ⟨rfl, hG3⟩
    have G3 := Lib.hid hG3
    clear hG3
    have qy := QY.out.grown G3.out (by simp)
    have qp := QP.out.grown G3.out (by simp)
    have l5 := qy.lt
    have l6 := qp.lt
    have y0 := qy.cell 0
    have y1 := qy.cell 1
    have y2 := qy.cell 2
    have y3 := qy.cell 3
    have y4 := qy.cell 4
    have y5 := qy.cell 5
    have cp := qp.cell 1
    simp only [List.getElem?_cons_zero, List.getElem?_cons_succ] at y0 y1 y2 y3 y4 y5 cp
    clear qy qp
    go_wp2_with fail
    go_ret
    exact ⟨rfl, gr_below (gr_alloc (gr_alloc (gr_trans (gr_alloc (gr_trans (gr_alloc (gr_alloc (gr_trans (gr_alloc (gr_alloc (gr_alloc (gr_refl _ _) _) _) _) G1.out) _) _) G2.out) _) G3.out) _) _)⟩
  · have eo := sw_or 1073762323 a b n (by decide) ha hb hn
    have HW := Lib.hid (sw19 1073762323 a b n 5 16 30 (by decide) ha hb hn (by decide) (by decide) (by decide) (by decide) (by decide) (by decide))
    have HB := sw_bit 1073762323 a b n j (by decide) ha hb hn hj
    have HN := Lib.hid (sw19_no 1073762323 a b n j (by decide) ha hb hn hj (by decide) (by decide))
    have hl := sw_lt 1073762323 a b n (by decide) ha hb hn
    generalize sw 1073762323 a b n = x at *
    rw [show ((1073762323 : Nat) : Int) = 1073762323 from rfl] at eo
    obtain ⟨eb2, hb2⟩ := HB
    have EB := Lib.hid (show bits .or .u32 (x : Int) (2 ^ (26 + j) % 4294967296) = ((x + 67108864 * 2 ^ j : Nat) : Int) by rw [pow_26 j hj]; exact eb2)
    clear eb2
    generalize x + 67108864 * 2 ^ j = y at *
    go_enter Try.func4, Try.ntmps4
    go_wp2_with fail
    refine (shown04_c _).mono ?_
    rintro e w1 ⟨rfl, hG1⟩
    have G1 := Lib.hid hG1
    clear hG1
    have q0 := R0.out.grown G1.out (by simp)
    have q1 := R1.out.grown G1.out (by simp)
    have q2 := R2.out.grown G1.out (by simp)
    have l0 := q0.lt
    have l1 := q1.lt
    have l2 := q2.lt
    have c00 := q0.cell 0
    have c01 := q0.cell 1
    have c10 := q1.cell 0
    have c20 := q2.cell 0
    simp only [List.getElem?_cons_zero, List.getElem?_cons_succ] at c00 c01 c10 c20
    have Q2 := Lib.hid (q2.alloc (.cells #[.int .u32 4115, .int .u32 20499, .int .u32 1073762323, .int .u32 4123, .int .u32 20507, .int .u32 1073762331] 22) |>.alloc (.cells #[.int .i64 28, .int .i64 29, .int .i64 30, .int .i64 42, .int .i64 43, .int .i64 44] 3))
    have QO := Lib.hid (by
      have h := Row.fresh (w1.alloc (.cells #[.int .u32 4115, .int .u32 20499, .int .u32 1073762323, .int .u32 4123, .int .u32 20507, .int .u32 1073762331] 22)) 3 [.int .i64 28, .int .i64 29, .int .i64 30, .int .i64 42, .int .i64 43, .int .i64 44]
      rw [World.size_alloc] at h
      exact h)
    clear q0 q1 q2
    go_wp2_with fail
    refine (Word_at (by omega) HW.out _).mono ?_
    rintro e w2 ⟨rfl, hG2⟩
    have G2 := Lib.hid hG2
    clear hG2 c00 c01 c10 c20
    have q2 := Q2.out.grown G2.out (by simp)
    have qo := QO.out.grown G2.out (by simp)
    have l3 := q2.lt
    have l4 := qo.lt
    have c21 := q2.cell 1
    have co := qo.cell 2
    simp only [List.getElem?_cons_zero, List.getElem?_cons_succ] at c21 co
    have QY := Lib.hid (Row.fresh w2 25 [.int .i64 30, .int .i64 (a : Int), .int .i64 (b : Int), .int .i64 0, .int .i64 (n : Int), .int .i64 4])
    have QP := Lib.hid (qo.alloc (.cells #[.int .i64 30, .int .i64 (a : Int), .int .i64 (b : Int), .int .i64 0, .int .i64 (n : Int), .int .i64 4] 25))
    clear q2 qo
    go_wp2_with fail
    rw [EB.out]
    refine (Word_at hb2 HN.out _).mono ?_
    rintro e w3 ⟨rfl, hG3⟩
    have G3 := Lib.hid hG3
    clear hG3
    have qy := QY.out.grown G3.out (by simp)
    have qp := QP.out.grown G3.out (by simp)
    have l5 := qy.lt
    have l6 := qp.lt
    have y0 := qy.cell 0
    have y1 := qy.cell 1
    have y2 := qy.cell 2
    have y3 := qy.cell 3
    have y4 := qy.cell 4
    have y5 := qy.cell 5
    have cp := qp.cell 2
    simp only [List.getElem?_cons_zero, List.getElem?_cons_succ] at y0 y1 y2 y3 y4 y5 cp
    clear qy qp
    go_wp2_with fail
    go_ret
    exact ⟨rfl, gr_below (gr_alloc (gr_alloc (gr_trans (gr_alloc (gr_trans (gr_alloc (gr_alloc (gr_trans (gr_alloc (gr_alloc (gr_alloc (gr_refl _ _) _) _) _) G1.out) _) _) G2.out) _) G3.out) _) _)⟩
  · have eo := sw_or 4123 a b n (by decide) ha hb hn
    have hl := sw_lt 4123 a b n (by decide) ha hb hn
    rw [show ((4123 : Nat) : Int) = 4123 from rfl] at eo
    by_cases h31 : n ≤ 31
    · have HW := Lib.hid (sw27 4123 a b n 1 0 42 (by decide) ha hb (by omega) (by decide) (by decide) (by decide) (by decide) (by decide) (by decide))
      have HB := sw_bit 4123 a b n j (by decide) ha hb hn hj
      have HN := Lib.hid (sw27_no 4123 a b n j (by decide) ha hb hn hj (by decide) (by decide))
      generalize sw 4123 a b n = x at *
      obtain ⟨eb2, hb2⟩ := HB
      have EB := Lib.hid (show bits .or .u32 (x : Int) (2 ^ (26 + j) % 4294967296) = ((x + 67108864 * 2 ^ j : Nat) : Int) by rw [pow_26 j hj]; exact eb2)
      clear eb2
      generalize x + 67108864 * 2 ^ j = y at *
      go_enter Try.func4, Try.ntmps4
      go_wp2_with fail
      refine (shown04_c _).mono ?_
      rintro e w1 ⟨rfl, hG1⟩
      have G1 := Lib.hid hG1
      clear hG1
      have q0 := R0.out.grown G1.out (by simp)
      have q1 := R1.out.grown G1.out (by simp)
      have q2 := R2.out.grown G1.out (by simp)
      have l0 := q0.lt
      have l1 := q1.lt
      have l2 := q2.lt
      have c00 := q0.cell 0
      have c01 := q0.cell 1
      have c10 := q1.cell 0
      have c20 := q2.cell 0
      simp only [List.getElem?_cons_zero, List.getElem?_cons_succ] at c00 c01 c10 c20
      have Q2 := Lib.hid (q2.alloc (.cells #[.int .u32 4115, .int .u32 20499, .int .u32 1073762323, .int .u32 4123, .int .u32 20507, .int .u32 1073762331] 22) |>.alloc (.cells #[.int .i64 28, .int .i64 29, .int .i64 30, .int .i64 42, .int .i64 43, .int .i64 44] 3))
      have QO := Lib.hid (by
        have h := Row.fresh (w1.alloc (.cells #[.int .u32 4115, .int .u32 20499, .int .u32 1073762323, .int .u32 4123, .int .u32 20507, .int .u32 1073762331] 22)) 3 [.int .i64 28, .int .i64 29, .int .i64 30, .int .i64 42, .int .i64 43, .int .i64 44]
        rw [World.size_alloc] at h
        exact h)
      clear q0 q1 q2
      go_wp2_with fail
      refine (Word_at (by omega) HW.out _).mono ?_
      rintro e w2 ⟨rfl, hG2⟩
      have G2 := Lib.hid hG2
      clear hG2 c00 c01 c10 c20
      have q2 := Q2.out.grown G2.out (by simp)
      have qo := QO.out.grown G2.out (by simp)
      have l3 := q2.lt
      have l4 := qo.lt
      have c21 := q2.cell 1
      have co := qo.cell 3
      simp only [List.getElem?_cons_zero, List.getElem?_cons_succ] at c21 co
      have QY := Lib.hid (Row.fresh w2 25 [.int .i64 42, .int .i64 (a : Int), .int .i64 (b : Int), .int .i64 0, .int .i64 (n : Int), .int .i64 4])
      have QP := Lib.hid (qo.alloc (.cells #[.int .i64 42, .int .i64 (a : Int), .int .i64 (b : Int), .int .i64 0, .int .i64 (n : Int), .int .i64 4] 25))
      clear q2 qo
      go_wp2_with fail
      rw [EB.out]
      refine (Word_at hb2 HN.out _).mono ?_
      rintro e w3 ⟨rfl, hG3⟩
      have G3 := Lib.hid hG3
      clear hG3
      have qy := QY.out.grown G3.out (by simp)
      have qp := QP.out.grown G3.out (by simp)
      have l5 := qy.lt
      have l6 := qp.lt
      have y0 := qy.cell 0
      have y1 := qy.cell 1
      have y2 := qy.cell 2
      have y3 := qy.cell 3
      have y4 := qy.cell 4
      have y5 := qy.cell 5
      have cp := qp.cell 3
      simp only [List.getElem?_cons_zero, List.getElem?_cons_succ] at y0 y1 y2 y3 y4 y5 cp
      clear qy qp
      go_wp2_with fail
      go_ret
      exact ⟨rfl, gr_below (gr_alloc (gr_alloc (gr_trans (gr_alloc (gr_trans (gr_alloc (gr_alloc (gr_trans (gr_alloc (gr_alloc (gr_alloc (gr_refl _ _) _) _) _) G1.out) _) _) G2.out) _) G3.out) _) _)⟩
    · have h32 : 31 < n := by omega
      have HW := Lib.hid (sw27_far 4123 a b n (by decide) ha hb hn h32 (by decide) (by decide))
      generalize sw 4123 a b n = x at *
      go_enter Try.func4, Try.ntmps4
      go_wp2_with fail
      refine (shown04_c _).mono ?_
      rintro e w1 ⟨rfl, hG1⟩
      have G1 := Lib.hid hG1
      clear hG1
      have q0 := R0.out.grown G1.out (by simp)
      have q1 := R1.out.grown G1.out (by simp)
      have q2 := R2.out.grown G1.out (by simp)
      have l0 := q0.lt
      have l1 := q1.lt
      have l2 := q2.lt
      have c00 := q0.cell 0
      have c01 := q0.cell 1
      have c10 := q1.cell 0
      have c20 := q2.cell 0
      simp only [List.getElem?_cons_zero, List.getElem?_cons_succ] at c00 c01 c10 c20
      have Q2 := Lib.hid (q2.alloc (.cells #[.int .u32 4115, .int .u32 20499, .int .u32 1073762323, .int .u32 4123, .int .u32 20507, .int .u32 1073762331] 22) |>.alloc (.cells #[.int .i64 28, .int .i64 29, .int .i64 30, .int .i64 42, .int .i64 43, .int .i64 44] 3))
      have QO := Lib.hid (by
        have h := Row.fresh (w1.alloc (.cells #[.int .u32 4115, .int .u32 20499, .int .u32 1073762323, .int .u32 4123, .int .u32 20507, .int .u32 1073762331] 22)) 3 [.int .i64 28, .int .i64 29, .int .i64 30, .int .i64 42, .int .i64 43, .int .i64 44]
        rw [World.size_alloc] at h
        exact h)
      clear q0 q1 q2
      go_wp2_with fail
      refine (Word_at (by omega) HW.out _).mono ?_
      rintro e w2 ⟨rfl, hG2⟩
      have G2 := Lib.hid hG2
      clear hG2 c00 c01 c10 c20
      go_wp2_with fail
      go_ret
      exact ⟨rfl, gr_below (gr_alloc (gr_trans (gr_alloc (gr_alloc (gr_trans (gr_alloc (gr_alloc (gr_alloc (gr_refl _ _) _) _) _) G1.out) _) _) G2.out) _)⟩
  · have eo := sw_or 20507 a b n (by decide) ha hb hn
    have hl := sw_lt 20507 a b n (by decide) ha hb hn
    rw [show ((20507 : Nat) : Int) = 20507 from rfl] at eo
    by_cases h31 : n ≤ 31
    · have HW := Lib.hid (sw27 20507 a b n 5 0 43 (by decide) ha hb (by omega) (by decide) (by decide) (by decide) (by decide) (by decide) (by decide))
      have HB := sw_bit 20507 a b n j (by decide) ha hb hn hj
      have HN := Lib.hid (sw27_no 20507 a b n j (by decide) ha hb hn hj (by decide) (by decide))
      generalize sw 20507 a b n = x at *
      obtain ⟨eb2, hb2⟩ := HB
      have EB := Lib.hid (show bits .or .u32 (x : Int) (2 ^ (26 + j) % 4294967296) = ((x + 67108864 * 2 ^ j : Nat) : Int) by rw [pow_26 j hj]; exact eb2)
      clear eb2
      generalize x + 67108864 * 2 ^ j = y at *
      go_enter Try.func4, Try.ntmps4
      go_wp2_with fail
      refine (shown04_c _).mono ?_
      rintro e w1 ⟨rfl, hG1⟩
      have G1 := Lib.hid hG1
      clear hG1
      have q0 := R0.out.grown G1.out (by simp)
      have q1 := R1.out.grown G1.out (by simp)
      have q2 := R2.out.grown G1.out (by simp)
      have l0 := q0.lt
      have l1 := q1.lt
      have l2 := q2.lt
      have c00 := q0.cell 0
      have c01 := q0.cell 1
      have c10 := q1.cell 0
      have c20 := q2.cell 0
      simp only [List.getElem?_cons_zero, List.getElem?_cons_succ] at c00 c01 c10 c20
      have Q2 := Lib.hid (q2.alloc (.cells #[.int .u32 4115, .int .u32 20499, .int .u32 1073762323, .int .u32 4123, .int .u32 20507, .int .u32 1073762331] 22) |>.alloc (.cells #[.int .i64 28, .int .i64 29, .int .i64 30, .int .i64 42, .int .i64 43, .int .i64 44] 3))
      have QO := Lib.hid (by
        have h := Row.fresh (w1.alloc (.cells #[.int .u32 4115, .int .u32 20499, .int .u32 1073762323, .int .u32 4123, .int .u32 20507, .int .u32 1073762331] 22)) 3 [.int .i64 28, .int .i64 29, .int .i64 30, .int .i64 42, .int .i64 43, .int .i64 44]
        rw [World.size_alloc] at h
        exact h)
      clear q0 q1 q2
      go_wp2_with fail
      refine (Word_at (by omega) HW.out _).mono ?_
      rintro e w2 ⟨rfl, hG2⟩
      have G2 := Lib.hid hG2
      clear hG2 c00 c01 c10 c20
      have q2 := Q2.out.grown G2.out (by simp)
      have qo := QO.out.grown G2.out (by simp)
      have l3 := q2.lt
      have l4 := qo.lt
      have c21 := q2.cell 1
      have co := qo.cell 4
      simp only [List.getElem?_cons_zero, List.getElem?_cons_succ] at c21 co
      have QY := Lib.hid (Row.fresh w2 25 [.int .i64 43, .int .i64 (a : Int), .int .i64 (b : Int), .int .i64 0, .int .i64 (n : Int), .int .i64 4])
      have QP := Lib.hid (qo.alloc (.cells #[.int .i64 43, .int .i64 (a : Int), .int .i64 (b : Int), .int .i64 0, .int .i64 (n : Int), .int .i64 4] 25))
      clear q2 qo
      go_wp2_with fail
      rw [EB.out]
      refine (Word_at hb2 HN.out _).mono ?_
      rintro e w3 ⟨rfl, hG3⟩
      have G3 := Lib.hid hG3
      clear hG3
      have qy := QY.out.grown G3.out (by simp)
      have qp := QP.out.grown G3.out (by simp)
      have l5 := qy.lt
      have l6 := qp.lt
      have y0 := qy.cell 0
      have y1 := qy.cell 1
      have y2 := qy.cell 2
      have y3 := qy.cell 3
      have y4 := qy.cell 4
      have y5 := qy.cell 5
      have cp := qp.cell 4
      simp only [List.getElem?_cons_zero, List.getElem?_cons_succ] at y0 y1 y2 y3 y4 y5 cp
      clear qy qp
      go_wp2_with fail
      go_ret
      exact ⟨rfl, gr_below (gr_alloc (gr_alloc (gr_trans (gr_alloc (gr_trans (gr_alloc (gr_alloc (gr_trans (gr_alloc (gr_alloc (gr_alloc (gr_refl _ _) _) _) _) G1.out) _) _) G2.out) _) G3.out) _) _)⟩
    · have h32 : 31 < n := by omega
      have HW := Lib.hid (sw27_far 20507 a b n (by decide) ha hb hn h32 (by decide) (by decide))
      generalize sw 20507 a b n = x at *
      go_enter Try.func4, Try.ntmps4
      go_wp2_with fail
      refine (shown04_c _).mono ?_
      rintro e w1 ⟨rfl, hG1⟩
      have G1 := Lib.hid hG1
      clear hG1
      have q0 := R0.out.grown G1.out (by simp)
      have q1 := R1.out.grown G1.out (by simp)
      have q2 := R2.out.grown G1.out (by simp)
      have l0 := q0.lt
      have l1 := q1.lt
      have l2 := q2.lt
      have c00 := q0.cell 0
      have c01 := q0.cell 1
      have c10 := q1.cell 0
      have c20 := q2.cell 0
      simp only [List.getElem?_cons_zero, List.getElem?_cons_succ] at c00 c01 c10 c20
      have Q2 := Lib.hid (q2.alloc (.cells #[.int .u32 4115, .int .u32 20499, .int .u32 1073762323, .int .u32 4123, .int .u32 20507, .int .u32 1073762331] 22) |>.alloc (.cells #[.int .i64 28, .int .i64 29, .int .i64 30, .int .i64 42, .int .i64 43, .int .i64 44] 3))
      have QO := Lib.hid (by
        have h := Row.fresh (w1.alloc (.cells #[.int .u32 4115, .int .u32 20499, .int .u32 1073762323, .int .u32 4123, .int .u32 20507, .int .u32 1073762331] 22)) 3 [.int .i64 28, .int .i64 29, .int .i64 30, .int .i64 42, .int .i64 43, .int .i64 44]
        rw [World.size_alloc] at h
        exact h)
      clear q0 q1 q2
      go_wp2_with fail
      refine (Word_at (by omega) HW.out _).mono ?_
      rintro e w2 ⟨rfl, hG2⟩
      have G2 := Lib.hid hG2
      clear hG2 c00 c01 c10 c20
      go_wp2_with fail
      go_ret
      exact ⟨rfl, gr_below (gr_alloc (gr_trans (gr_alloc (gr_alloc (gr_trans (gr_alloc (gr_alloc (gr_alloc (gr_refl _ _) _) _) _) G1.out) _) _) G2.out) _)⟩
  · have eo := sw_or 1073762331 a b n (by decide) ha hb hn
    have hl := sw_lt 1073762331 a b n (by decide) ha hb hn
    rw [show ((1073762331 : Nat) : Int) = 1073762331 from rfl] at eo
    by_cases h31 : n ≤ 31
    · have HW := Lib.hid (sw27 1073762331 a b n 5 32 44 (by decide) ha hb (by omega) (by decide) (by decide) (by decide) (by decide) (by decide) (by decide))
      have HB := sw_bit 1073762331 a b n j (by decide) ha hb hn hj
      have HN := Lib.hid (sw27_no 1073762331 a b n j (by decide) ha hb hn hj (by decide) (by decide))
      generalize sw 1073762331 a b n = x at *
      obtain ⟨eb2, hb2⟩ := HB
      have EB := Lib.hid (show bits .or .u32 (x : Int) (2 ^ (26 + j) % 4294967296) = ((x + 67108864 * 2 ^ j : Nat) : Int) by rw [pow_26 j hj]; exact eb2)
      clear eb2
      generalize x + 67108864 * 2 ^ j = y at *
      go_enter Try.func4, Try.ntmps4
      go_wp2_with fail
      refine (shown04_c _).mono ?_
      rintro e w1 ⟨rfl, hG1⟩
      have G1 := Lib.hid hG1
      clear hG1
      have q0 := R0.out.grown G1.out (by simp)
      have q1 := R1.out.grown G1.out (by simp)
      have q2 := R2.out.grown G1.out (by simp)
      have l0 := q0.lt
      have l1 := q1.lt
      have l2 := q2.lt
      have c00 := q0.cell 0
      have c01 := q0.cell 1
      have c10 := q1.cell 0
      have c20 := q2.cell 0
      simp only [List.getElem?_cons_zero, List.getElem?_cons_succ] at c00 c01 c10 c20
      have Q2 := Lib.hid (q2.alloc (.cells #[.int .u32 4115, .int .u32 20499, .int .u32 1073762323, .int .u32 4123, .int .u32 20507, .int .u32 1073762331] 22) |>.alloc (.cells #[.int .i64 28, .int .i64 29, .int .i64 30, .int .i64 42, .int .i64 43, .int .i64 44] 3))
      have QO := Lib.hid (by
        have h := Row.fresh (w1.alloc (.cells #[.int .u32 4115, .int .u32 20499, .int .u32 1073762323, .int .u32 4123, .int .u32 20507, .int .u32 1073762331] 22)) 3 [.int .i64 28, .int .i64 29, .int .i64 30, .int .i64 42, .int .i64 43, .int .i64 44]
        rw [World.size_alloc] at h
        exact h)
      clear q0 q1 q2
      go_wp2_with fail
      refine (Word_at (by omega) HW.out _).mono ?_
      rintro e w2 ⟨rfl, hG2⟩
      have G2 := Lib.hid hG2
      clear hG2 c00 c01 c10 c20
      have q2 := Q2.out.grown G2.out (by simp)
      have qo := QO.out.grown G2.out (by simp)
      have l3 := q2.lt
      have l4 := qo.lt
      have c21 := q2.cell 1
      have co := qo.cell 5
      simp only [List.getElem?_cons_zero, List.getElem?_cons_succ] at c21 co
      have QY := Lib.hid (Row.fresh w2 25 [.int .i64 44, .int .i64 (a : Int), .int .i64 (b : Int), .int .i64 0, .int .i64 (n : Int), .int .i64 4])
      have QP := Lib.hid (qo.alloc (.cells #[.int .i64 44, .int .i64 (a : Int), .int .i64 (b : Int), .int .i64 0, .int .i64 (n : Int), .int .i64 4] 25))
      clear q2 qo
      go_wp2_with fail
      rw [EB.out]
      refine (Word_at hb2 HN.out _).mono ?_
      rintro e w3 ⟨rfl, hG3⟩
      have G3 := Lib.hid hG3
      clear hG3
      have qy := QY.out.grown G3.out (by simp)
      have qp := QP.out.grown G3.out (by simp)
      have l5 := qy.lt
      have l6 := qp.lt
      have y0 := qy.cell 0
      have y1 := qy.cell 1
      have y2 := qy.cell 2
      have y3 := qy.cell 3
      have y4 := qy.cell 4
      have y5 := qy.cell 5
      have cp := qp.cell 5
      simp only [List.getElem?_cons_zero, List.getElem?_cons_succ] at y0 y1 y2 y3 y4 y5 cp
      clear qy qp
      go_wp2_with fail
      go_ret
      exact ⟨rfl, gr_below (gr_alloc (gr_alloc (gr_trans (gr_alloc (gr_trans (gr_alloc (gr_alloc (gr_trans (gr_alloc (gr_alloc (gr_alloc (gr_refl _ _) _) _) _) G1.out) _) _) G2.out) _) G3.out) _) _)⟩
    · have h32 : 31 < n := by omega
      have HW := Lib.hid (sw27_far 1073762331 a b n (by decide) ha hb hn h32 (by decide) (by decide))
      generalize sw 1073762331 a b n = x at *
      go_enter Try.func4, Try.ntmps4
      go_wp2_with fail
      refine (shown04_c _).mono ?_
      rintro e w1 ⟨rfl, hG1⟩
      have G1 := Lib.hid hG1
      clear hG1
      have q0 := R0.out.grown G1.out (by simp)
      have q1 := R1.out.grown G1.out (by simp)
      have q2 := R2.out.grown G1.out (by simp)
      have l0 := q0.lt
      have l1 := q1.lt
      have l2 := q2.lt
      have c00 := q0.cell 0
      have c01 := q0.cell 1
      have c10 := q1.cell 0
      have c20 := q2.cell 0
      simp only [List.getElem?_cons_zero, List.getElem?_cons_succ] at c00 c01 c10 c20
      have Q2 := Lib.hid (q2.alloc (.cells #[.int .u32 4115, .int .u32 20499, .int .u32 1073762323, .int .u32 4123, .int .u32 20507, .int .u32 1073762331] 22) |>.alloc (.cells #[.int .i64 28, .int .i64 29, .int .i64 30, .int .i64 42, .int .i64 43, .int .i64 44] 3))
      have QO := Lib.hid (by
        have h := Row.fresh (w1.alloc (.cells #[.int .u32 4115, .int .u32 20499, .int .u32 1073762323, .int .u32 4123, .int .u32 20507, .int .u32 1073762331] 22)) 3 [.int .i64 28, .int .i64 29, .int .i64 30, .int .i64 42, .int .i64 43, .int .i64 44]
        rw [World.size_alloc] at h
        exact h)
      clear q0 q1 q2
      go_wp2_with fail
      refine (Word_at (by omega) HW.out _).mono ?_
      rintro e w2 ⟨rfl, hG2⟩
      have G2 := Lib.hid hG2
      clear hG2 c00 c01 c10 c20
      go_wp2_with fail
      go_ret
      exact ⟨rfl, gr_below (gr_alloc (gr_trans (gr_alloc (gr_alloc (gr_trans (gr_alloc (gr_alloc (gr_alloc (gr_refl _ _) _) _) _) G1.out) _) _) G2.out) _)⟩

theorem own : ownKnob Try.prog.godebug = none := by kernel_rfl
theorem laidOut : laidOutB Try.prog = true := by kernel_rfl

set_option maxRecDepth 100000 in
theorem lifted (os : Os) (started : os.Started) (H : Type) (enc : TypeId × Value → H) :
    ReturnsInHanded {} Try.checked os 4 .any (Rows.decodeShiftsSpec.pre6 enc Try.prog Try.f4 Rows.decodeShiftsRow.domain false) (Rows.decodeShiftsSpec.post enc Try.prog Try.f4 false true false false) := by
  refine returnsInHanded_of_change (C := Try.checked) own started (by kernel_rfl) Try.func4
    (ChangeSpec.witness6 (enc := enc) (C := Try.checked) false ⟨#[], #[.agg #[.int .u8 0, .int .u8 0], .agg #[.int .u8 0, .int .u8 0], .agg #[.int .u8 0, .int .u8 0]], []⟩ 8 (by kernel_rfl) (by kernel_rfl) (by kernel_rfl) (by kernel_rfl)) ?_
  intro W base args ds gs before hval0 hW hcnd _
  have hval : ∀ (j : Nat) t v, Try.f4.params[j]? = some t → args[j]? = some v → Value.okWide Try.prog W .any base t v := hval0
  have hW' := hW
  obtain ⟨p, q, hA0, hV, rfl, hfz, hnd⟩ := hW
  have hA : DataW.TrodAll enc Try.prog W 0 (fun _ => true) true Try.f4.params.toList args.toList ds p := hA0
  rw [Try.params4] at hA hval
  obtain ⟨v0, vs0, d0, ds0, p0, q0, hargs, rfl, rfl, h0, r0⟩ := trodAll_cons hA
  obtain ⟨v1, vs1, d1, ds1, p1, q1, rfl, rfl, rfl, h1, r1⟩ := trodAll_cons r0
  obtain ⟨v2, vs2, d2, ds2, p2, q2, rfl, rfl, rfl, h2, r2⟩ := trodAll_cons r1
  obtain ⟨rfl, rfl, rfl⟩ := trodAll_nil r2
  obtain rfl : args = #[v0, v1, v2] := by cases args; simp_all
  obtain ⟨rfl, rfl⟩ := trodVars_none hV
  clear hA0 hval0 hA
  have k0 := h0
  have lt0 : ∀ x ∈ p0, x.block < W.heap.size := by obtain ⟨m, hm⟩ := k0; exact DataW.trod_lt m _ _ _ hm
  obtain ⟨xs0, rfl, l0, w0⟩ := Op.open_arr_int Try.underlying28 Try.underlying5 (by kernel_rfl) (by kernel_rfl) (hval 0 28 v0 rfl rfl) h0
  obtain _ | ⟨a0_0, xs0⟩ := xs0
  · simp at l0
  obtain _ | ⟨a0_1, xs0⟩ := xs0
  · simp at l0
  obtain _ | ⟨_, _⟩ := xs0
  rotate_left
  · simp at l0
  clear h0
  simp only [List.map_cons, List.map_nil] at *
  have w0_0 := w0 a0_0 (by simp)
  have w0_1 := w0 a0_1 (by simp)
  have k1 := h1
  have lt1 : ∀ x ∈ p1, x.block < W.heap.size := by obtain ⟨m, hm⟩ := k1; exact DataW.trod_lt m _ _ _ hm
  obtain ⟨xs1, rfl, l1, w1⟩ := Op.open_arr_int Try.underlying28 Try.underlying5 (by kernel_rfl) (by kernel_rfl) (hval 1 28 v1 rfl rfl) h1
  obtain _ | ⟨a1_0, xs1⟩ := xs1
  · simp at l1
  obtain _ | ⟨a1_1, xs1⟩ := xs1
  · simp at l1
  obtain _ | ⟨_, _⟩ := xs1
  rotate_left
  · simp at l1
  clear h1
  simp only [List.map_cons, List.map_nil] at *
  have w1_0 := w1 a1_0 (by simp)
  have w1_1 := w1 a1_1 (by simp)
  have k2 := h2
  have lt2 : ∀ x ∈ p2, x.block < W.heap.size := by obtain ⟨m, hm⟩ := k2; exact DataW.trod_lt m _ _ _ hm
  obtain ⟨xs2, rfl, l2, w2⟩ := Op.open_arr_int Try.underlying28 Try.underlying5 (by kernel_rfl) (by kernel_rfl) (hval 2 28 v2 rfl rfl) h2
  obtain _ | ⟨a2_0, xs2⟩ := xs2
  · simp at l2
  obtain _ | ⟨a2_1, xs2⟩ := xs2
  · simp at l2
  obtain _ | ⟨_, _⟩ := xs2
  rotate_left
  · simp at l2
  clear h2
  simp only [List.map_cons, List.map_nil] at *
  have w2_0 := w2 a2_0 (by simp)
  have w2_1 := w2 a2_1 (by simp)
  refine (walk W a0_0 w0_0 a0_1 w0_1 a1_0 w1_0 a1_1 w1_1 a2_0 w2_0 a2_1 w2_1).mono fun e W' ⟨he, bel⟩ => ?_
  subst he
  exact ⟨_, rfl, _, _, _, [], _, [], hW', trodAll_mk1 (shut_bool Try.underlying4 _), (trodAll_cons_mk (Below.trod laidOut (by kernel_rfl) (of_decide_eq_true (by kernel_rfl)) k0 bel lt0) (trodAll_cons_mk (Below.trod laidOut (by kernel_rfl) (of_decide_eq_true (by kernel_rfl)) k1 bel lt1) (trodAll_cons_mk (Below.trod laidOut (by kernel_rfl) (of_decide_eq_true (by kernel_rfl)) k2 bel lt2) trodAll_mk0))), rfl, bel.frame _, fun h => by cases h⟩

theorem over : Rows.decodeShiftsRow.holds Try.pinned (OpenSpec.ofChange Rows.decodeShiftsSpec) :=
  OpenClaim.holds_of_wide 4 Try.f4 rfl rfl rfl rfl rfl rfl rfl ⟨rfl, rfl, rfl, rfl, rfl⟩ rfl rfl rfl rfl rfl (by kernel_rfl) Try.func4 (by kernel_rfl)
    (of_decide_eq_true (by kernel_rfl)) (by unfold Func.isWrapper; first | (rw [if_pos (by decide +kernel)]; kernel_rfl) | (rw [if_neg (by decide +kernel)]; exact ⟨rfl, rfl⟩))
    (fun os started H enc _ => lifted os started H enc)

/-- The statement. -/
theorem proved : Rows.DecodeShiftsSaid := over
#print axioms proved

end Go.Proofs.Ytdcihcmhmgeheaa.decodeShifts
