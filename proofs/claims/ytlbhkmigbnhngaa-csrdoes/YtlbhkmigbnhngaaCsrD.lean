/-
  What May, Read, Write and Fresh of package csr answer: contracts over the program's translation.
  Conditions: the arguments are numbers of their kinds.
-/
import Derived.Test.YtlbhkmigbnhngaaCsrT
namespace Go.Proofs.Ytlbhkmigbnhngaa
open Go Go.RowKit Go.Maps W M D A C
set_option linter.unusedVariables false
set_option linter.unusedSimpArgs false

theorem Fresh_c (w : World) : Calls Try.prog 18 #[] w fun e w' => e = .returned (vC freshV) ∧ w.grownBy w' none := by
  go_enter Try.func18, Try.ntmps18
  go_wp2_with fail
  exact ret_C rfl rfl rfl (Row.fresh w 24 (lC freshV)) rfl ⟨rfl, gr_alloc (gr_refl _ _) _⟩
set_option maxHeartbeats 2000000 in
theorem May_c (c : Cs) (hc : C.Good c) (n p : Int) (wr : Bool) (hn : -9223372036854775808 ≤ n ∧ n ≤ 9223372036854775807) (hp : -9223372036854775808 ≤ p ∧ p ≤ 9223372036854775807) (w : World) :
    Calls Try.prog 10 #[vC c, .int .i64 n, .int .i64 p, .bool wr] w fun e w' => e = .returned (.bool (mayV c n p wr)) ∧ w.grownBy w' none := by
  have HR := Lib.hid (Row.fresh w 24 (lC c))
  have h3 := hc.get 3
  obtain ⟨a0, a1, a2, a3, a4, a5, a6, a7, a8, a9, a10, a11, rfl⟩ := twelve hc.1
  rw [vC_12]
  have HC := Lib.hid hc
  have h3 : B64 a3 := h3
  clear hc
  unfold B64 at h3
  go_enter Try.func10, Try.ntmps10
  go_wp2_with fail
  refine (registers_c _).mono ?_
  rintro e w1 ⟨m, rfl, hT, hG⟩
  have R1 := Lib.hid (HR.out.grown hG (by simp))
  have G1 := Lib.hid (gr_trans (gr_alloc (gr_refl w none) _) hG)
  clear hG HR
  rcases hT.lookT Try.underlying47 (zeroR _) n hn with ⟨hr, e0⟩ | ⟨v, ⟨j, f⟩, hr, e0, ⟨q, k, rfl, hP, hD⟩⟩
  · unfold zR at hr
    clear hT
    have E0 := Lib.hid e0
    clear e0
    go_wp2_with fail
    refine (counters_c _).mono ?_
    rintro e w2 ⟨m2, rfl, hT, hG⟩
    have c3 := ((R1.out.alloc _).grown hG (by simp)).cell 3
    replace c3 : w2.cell? ⟨w.heap.size, 3, none⟩ = some (.int .u64 a3) := c3
    have G2 := Lib.hid (gr_trans (gr_alloc G1.out _) hG)
    have lt : w.heap.size < w2.heap.size := ((R1.out.alloc _).grown hG (by simp)).lt
    clear hG R1 hr
    rcases hT.lookT Try.underlying53 (zeroK _) n hn with ⟨hr, e1⟩ | ⟨v, ⟨f, u⟩, hr, e1, ⟨q, rfl, hP⟩⟩
    · have EZ := Lib.hid (show mayV [a0, a1, a2, a3, a4, a5, a6, a7, a8, a9, a10, a11] n p wr = false by rw [mayV, E0.out, e1])
      unfold zK at hr
      clear hT e1
      go_wp2_with fail
      go_ret
      exact ⟨ret_boo EZ.out.symm, gr_alloc G2.out _⟩
    · have EZ := Lib.hid (show mayV [a0, a1, a2, a3, a4, a5, a6, a7, a8, a9, a10, a11] n p wr = (!wr && (p == 1 || (p == 0 && !(bits .and .u64 a3 u == 0)))) by rw [mayV, E0.out, e1]; rfl)
      have hu := (tC_bd e1).1
      unfold B64 at hu
      replace hr : (Instr.lookup 53 m2 (.int .i64 n) true).run Try.prog w2 = .ok (.tuple #[.agg #[q, .int .u64 u], .bool true]) w2 := hr
      obtain ⟨k1, rfl, _⟩ := hP
      clear hT e1
      cases wr
      · by_cases h1 : p = 1
        · subst h1
          go_wp2_with fail
          go_ret
          exact ⟨ret_boo (by rw [EZ.out]; rfl), gr_alloc G2.out _⟩
        have d1 : (p == 1) = false := by simpa using h1
        by_cases h0 : p = 0
        · subst h0
          go_wp2_with fail
          go_ret
          exact ⟨ret_boo (by rw [EZ.out]; rfl), gr_alloc G2.out _⟩
        · have d0 : (p == 0) = false := by simpa using h0
          go_wp2_with fail
          go_ret
          exact ⟨ret_boo (by rw [EZ.out, d1, d0]; rfl), gr_alloc G2.out _⟩
      · go_wp2_with fail
        go_ret
        exact ⟨ret_boo (by rw [EZ.out]; rfl), gr_alloc G2.out _⟩
  · have EZ := Lib.hid (show mayV [a0, a1, a2, a3, a4, a5, a6, a7, a8, a9, a10, a11] n p wr = (p == 1) by rw [mayV, e0])
    obtain ⟨k1, rfl, _⟩ := hP
    obtain ⟨k2, cap, rfl, _⟩ := hD
    clear e0 hT
    go_wp2_with fail
    go_ret
    exact ⟨ret_boo EZ.out.symm, gr_alloc G1.out _⟩
set_option maxHeartbeats 2000000 in
theorem Read_c (c : Cs) (hc : C.Good c) (n t : Int) (hn : -9223372036854775808 ≤ n ∧ n ≤ 9223372036854775807) (ht : B64 t) (w : World) :
    Calls Try.prog 12 #[vC c, .int .i64 n, .int .u64 t] w fun e w' => e = .returned (.int .u64 (readV c n t)) ∧ w.grownBy w' none := by
  have HR := Lib.hid (Row.fresh w 24 (lC c))
  have HC := Lib.hid hc
  have HT := Lib.hid ht
  obtain ⟨a0, a1, a2, a3, a4, a5, a6, a7, a8, a9, a10, a11, rfl⟩ := twelve hc.1
  rw [vC_12]
  clear hc
  unfold B64 at ht
  go_enter Try.func12, Try.ntmps12
  go_wp2_with fail
  refine (registers_c _).mono ?_
  rintro e w1 ⟨m, rfl, hT, hG⟩
  have R1 := Lib.hid (HR.out.grown hG (by simp))
  have G1 := Lib.hid (gr_trans (gr_alloc (gr_refl w none) _) hG)
  clear hG HR
  rcases hT.lookT Try.underlying47 (zeroR _) n hn with ⟨hr, e0⟩ | ⟨v, ⟨j, f⟩, hr, e0, ⟨q, k, rfl, hP, hD⟩⟩
  · unfold zR at hr
    clear hT
    have E0 := Lib.hid e0
    clear e0
    go_wp2_with fail
    refine (counters_c _).mono ?_
    rintro e w2 ⟨m2, rfl, hT, hG⟩
    have R2 := Lib.hid ((R1.out.alloc _).grown hG (by simp))
    have k0 : w2.cell? ⟨w.heap.size, 0, none⟩ = some (.int .u64 a0) := R2.out.cell 0
    have k1 : w2.cell? ⟨w.heap.size, 1, none⟩ = some (.int .u64 a1) := R2.out.cell 1
    have k2 : w2.cell? ⟨w.heap.size, 2, none⟩ = some (.int .u64 a2) := R2.out.cell 2
    have k3 : w2.cell? ⟨w.heap.size, 3, none⟩ = some (.int .u64 a3) := R2.out.cell 3
    have k4 : w2.cell? ⟨w.heap.size, 4, none⟩ = some (.int .u64 a4) := R2.out.cell 4
    have k5 : w2.cell? ⟨w.heap.size, 5, none⟩ = some (.int .u64 a5) := R2.out.cell 5
    have k6 : w2.cell? ⟨w.heap.size, 6, none⟩ = some (.int .u64 a6) := R2.out.cell 6
    have k7 : w2.cell? ⟨w.heap.size, 7, none⟩ = some (.int .u64 a7) := R2.out.cell 7
    have k8 : w2.cell? ⟨w.heap.size, 8, none⟩ = some (.int .u64 a8) := R2.out.cell 8
    have k9 : w2.cell? ⟨w.heap.size, 9, none⟩ = some (.int .u64 a9) := R2.out.cell 9
    have k10 : w2.cell? ⟨w.heap.size, 10, none⟩ = some (.int .u64 a10) := R2.out.cell 10
    have k11 : w2.cell? ⟨w.heap.size, 11, none⟩ = some (.int .u64 a11) := R2.out.cell 11
    have G2 := Lib.hid (gr_trans (gr_alloc G1.out _) hG)
    have lt : w.heap.size < w2.heap.size := R2.out.lt
    clear hG R1 hr
    rcases hT.lookT Try.underlying53 (zeroK _) n hn with ⟨hr, e1⟩ | ⟨v, ⟨f, u⟩, hr, e1, ⟨q, rfl, hP⟩⟩
    · have EZ := Lib.hid (show readV [a0, a1, a2, a3, a4, a5, a6, a7, a8, a9, a10, a11] n t = 0 by rw [readV, E0.out, e1])
      unfold zK at hr
      clear hT e1
      go_wp2_with fail
      go_ret
      exact ⟨ret_int EZ.out.symm, gr_alloc G2.out _⟩
    · have EZ := Lib.hid (show readV [a0, a1, a2, a3, a4, a5, a6, a7, a8, a9, a10, a11] n t = f [a0, a1, a2, a3, a4, a5, a6, a7, a8, a9, a10, a11] t by rw [readV, E0.out, e1])
      replace hr : (Instr.lookup 53 m2 (.int .i64 n) true).run Try.prog w2 = .ok (.tuple #[.agg #[q, .int .u64 u], .bool true]) w2 := hr
      obtain ⟨k1, rfl, hop, hP⟩ := hP
      unfold Opens at hop
      have HP := Lib.hid (fun W => hP W _ t HC.out HT.out)
      clear hT e1 hP
      go_wp2_with fail
      refine (HP.out _).mono ?_
      rintro e w3 ⟨rfl, hG3⟩
      go_wp2_with fail
      go_ret
      exact ⟨ret_int EZ.out.symm, gr_trans (gr_alloc G2.out _) hG3⟩
  · have EZ := Lib.hid (show readV [a0, a1, a2, a3, a4, a5, a6, a7, a8, a9, a10, a11] n t = gC [a0, a1, a2, a3, a4, a5, a6, a7, a8, a9, a10, a11] j by rw [readV, e0])
    have hj := (tR_bd e0).1
    have kj : w1.cell? ⟨w.heap.size, j, none⟩ = some (.int .u64 (gC [a0, a1, a2, a3, a4, a5, a6, a7, a8, a9, a10, a11] j)) := (R1.out.cell j).trans (lC_get HC.out.1 j hj)
    have lt : w.heap.size < w1.heap.size := R1.out.lt
    generalize gC [a0, a1, a2, a3, a4, a5, a6, a7, a8, a9, a10, a11] j = y at *
    obtain ⟨k1, rfl, hop, hP⟩ := hP
    obtain ⟨k2, cap, rfl, _⟩ := hD
    unfold Opens at hop
    have HP := Lib.hid (fun W => hP W w.heap.size)
    clear e0 hT hP
    go_wp2_with fail
    refine (HP.out _).mono ?_
    rintro e w3 ⟨rfl, rfl⟩
    go_wp2_with fail
    go_ret
    exact ⟨ret_int EZ.out.symm, gr_alloc G1.out _⟩
end Go.Proofs.Ytlbhkmigbnhngaa
