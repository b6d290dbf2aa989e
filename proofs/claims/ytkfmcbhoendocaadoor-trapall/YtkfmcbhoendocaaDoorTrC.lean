/-
  What the functions of package trap answer: contracts over the program's translation.
  Conditions: the arguments are numbers of their kinds; 'first' and what calls it want the table of interrupts as the program's text lays it.
-/
import Derived.Test.YtkfmcbhoendocaaDoorCsrE
import Derived.Test.YtkfmcbhoendocaaDoorTrV
import Derived.Deep.Cut
namespace Go.Proofs.YtkfmcbhoendocaaDoor
open Go Go.RowKit Go.Maps W M D A C J
set_option linter.unusedVariables false
set_option linter.unusedSimpArgs false

theorem with_c (x b : Int) (hx : B64 x) (hb : B64 b) (s : Bool) (w : World) :
    Calls Tryd.prog 27 #[.int .u64 x, .int .u64 b, .bool s] w fun e w' => e = .returned (.int .u64 (withV x b s)) ∧ w = w' := by
  unfold withV notV orV
  go_enter Tryd.func27, Tryd.ntmps27
  cases s
  · go_wp2_with fail
    go_ret
    exact ⟨rfl, rfl⟩
  · go_wp2_with fail
    go_ret
    exact ⟨rfl, rfl⟩
theorem causeOf_c (i : Bool) (k : Int) (hk : -9223372036854775808 ≤ k ∧ k ≤ 9223372036854775807) (w : World) :
    Calls Tryd.prog 16 #[.bool i, .int .i64 k] w fun e w' => e = .returned (.int .u64 (causeV i k)) ∧ w = w' := by
  unfold causeV
  go_enter Tryd.func16, Tryd.ntmps16
  cases i
  · go_wp2_with fail
    go_ret
    exact ⟨rfl, rfl⟩
  · go_wp2_with fail
    go_ret
    exact ⟨rfl, rfl⟩
theorem handler_c (t : Int) (ht : B64 t) (i : Bool) (k : Int) (hk : -9223372036854775808 ≤ k ∧ k ≤ 9223372036854775807) (w : World) :
    Calls Tryd.prog 19 #[.int .u64 t, .bool i, .int .i64 k] w fun e w' => e = .returned (.int .u64 (handV t i k)) ∧ w = w' := by
  unfold handV onV notV andV
  go_enter Tryd.func19, Tryd.ntmps19
  cases i
  · go_wp2_with fail
    go_ret
    exact ⟨rfl, rfl⟩
  · by_cases h : bits .and .u64 t 1 = 0
    · rw [h]
      go_wp2_with fail
      go_ret
      exact ⟨rfl, rfl⟩
    · have d : (bits .and .u64 t 1 == 0) = false := beq_false_of_ne h
      rw [d]
      go_wp2_with fail
      go_ret
      exact ⟨rfl, rfl⟩
theorem left_c (s : Int) (hs : B64 s) (w : World) :
    Calls Tryd.prog 22 #[.int .u64 s] w fun e w' => e = .returned (.int .u64 (leftV s)) ∧ w = w' := by
  have W1 := Lib.hid (fun W => with_c s 2 hs (by decide) (onV s 32) W)
  have W2 := Lib.hid (fun W => with_c (withV s 2 (onV s 32)) 32 (with_bd hs (by decide) _) (by decide) true W)
  have W3 := Lib.hid (fun W => with_c (withV (withV s 2 (onV s 32)) 32 true) 256 (with_bd (with_bd hs (by decide) _) (by decide) _) (by decide) false W)
  unfold leftV
  go_enter Tryd.func22, Tryd.ntmps22
  go_wp2_with fail
  refine (W1.out _).mono ?_
  rintro e w' ⟨rfl, rfl⟩
  go_wp2_with fail
  refine (W2.out _).mono ?_
  rintro e w' ⟨rfl, rfl⟩
  go_wp2_with fail
  refine (W3.out _).mono ?_
  rintro e w' ⟨rfl, rfl⟩
  go_wp2_with fail
  go_ret
  exact ⟨rfl, rfl⟩
theorem entered_c (s p : Int) (hs : B64 s) (hp : -9223372036854775808 ≤ p ∧ p ≤ 9223372036854775807) (w : World) :
    Calls Tryd.prog 18 #[.int .u64 s, .int .i64 p] w fun e w' => e = .returned (.int .u64 (entV s p)) ∧ w = w' := by
  have W1 := Lib.hid (fun W => with_c s 32 hs (by decide) (onV s 2) W)
  have W2 := Lib.hid (fun W => with_c (withV s 32 (onV s 2)) 2 (with_bd hs (by decide) _) (by decide) false W)
  have W3 := Lib.hid (fun W => with_c (withV (withV s 32 (onV s 2)) 2 false) 256 (with_bd (with_bd hs (by decide) _) (by decide) _) (by decide) (p == 1) W)
  unfold entV
  go_enter Tryd.func18, Tryd.ntmps18
  go_wp2_with fail
  refine (W1.out _).mono ?_
  rintro e w' ⟨rfl, rfl⟩
  go_wp2_with fail
  refine (W2.out _).mono ?_
  rintro e w' ⟨rfl, rfl⟩
  go_wp2_with fail
  refine (W3.out _).mono ?_
  rintro e w' ⟨rfl, rfl⟩
  go_wp2_with fail
  go_ret
  exact ⟨rfl, rfl⟩
theorem lets_c (c : Cs) (hc : C.Good c) (p : Int) (hp : -9223372036854775808 ≤ p ∧ p ≤ 9223372036854775807) (w : World) :
    Calls Tryd.prog 23 #[vC c, .int .i64 p] w fun e w' => e = .returned (.bool (letsV (gC c 0) p)) ∧ w.grownBy w' none := by
  have HR := Row.fresh w 24 (lC c)
  have G := Lib.hid (gr_alloc (gr_refl w none) (.cells (lC c).toArray 24))
  obtain ⟨a0, a1, a2, a3, a4, a5, a6, a7, a8, a9, a10, a11, rfl⟩ := twelve hc.1
  rw [vC_12]
  have h0 : B64 a0 := hc.get 0
  have c0 := HR.cell 0
  unfold letsV onV andV
  unfold B64 at h0
  rw [show gC [a0, a1, a2, a3, a4, a5, a6, a7, a8, a9, a10, a11] 0 = a0 from rfl]
  clear hc
  go_enter Tryd.func23, Tryd.ntmps23
  by_cases e0 : p = 0
  · subst e0
    rw [if_pos rfl]
    go_wp2_with fail
    go_ret
    exact ⟨rfl, G.out⟩
  · rw [if_neg e0]
    by_cases e1 : p = 1
    · subst e1
      rw [if_pos rfl]
      go_wp2_with fail
      go_ret
      exact ⟨rfl, G.out⟩
    · rw [if_neg e1]
      go_wp2_with fail
      go_ret
      exact ⟨rfl, G.out⟩
/-- The table of interrupts holds what the program's text lays. -/
def Ints (w : World) : Prop := w.cell? ⟨0, 0, none⟩ = some (.int .i64 1) ∧ w.cell? ⟨0, 1, none⟩ = some (.int .i64 5)
theorem Ints.lt {w : World} (h : Ints w) : 0 < w.heap.size := block_lt_of_cell h.1
theorem Ints.grown {w w' : World} (h : Ints w) (hg : w.grownBy w' none) : Ints w' :=
  ⟨by rw [← h.1]; simp [World.cell?, hg.block 0 h.lt (by simp)], by rw [← h.2]; simp [World.cell?, hg.block 0 h.lt (by simp)]⟩
theorem ints_0 (W : World) : (Instr.index 59 (.agg #[.int .i64 1, .int .i64 5]) (.int .i64 0)).run Tryd.prog W = .ok (.int .i64 1) W := by kernel_rfl
theorem ints_1 (W : World) : (Instr.index 59 (.agg #[.int .i64 1, .int .i64 5]) (.int .i64 1)).run Tryd.prog W = .ok (.int .i64 5) W := by kernel_rfl
def vI (k : Int) (b : Bool) : Value := .tuple #[.int .i64 k, .bool b]
theorem first_c (c : Cs) (hc : C.Good c) (w : World) (hT : Ints w) :
    Calls Tryd.prog 24 #[vC c] w fun e w' => e = .returned (vI (firstV (bothV c)) (anyV (bothV c))) ∧ w.grownBy w' none := by
  have HR := Row.fresh w 24 (lC c)
  have G := Lib.hid (gr_alloc (gr_refl w none) (.cells (lC c).toArray 24))
  obtain ⟨a0, a1, a2, a3, a4, a5, a6, a7, a8, a9, a10, a11, rfl⟩ := twelve hc.1
  rw [vC_12]
  have h8 : B64 a8 := hc.get 8
  have h1 : B64 a1 := hc.get 1
  have hb : B64 (andV a8 a1) := and_bd h8 h1
  have c8 := HR.cell 8
  have c1 := HR.cell 1
  obtain ⟨i0, i1⟩ := hT.grown (gr_alloc (gr_refl w none) (.cells #[.int .u64 a0, .int .u64 a1, .int .u64 a2, .int .u64 a3, .int .u64 a4, .int .u64 a5, .int .u64 a6, .int .u64 a7, .int .u64 a8, .int .u64 a9, .int .u64 a10, .int .u64 a11] 24))
  clear hT
  unfold bothV
  rw [show gC [a0, a1, a2, a3, a4, a5, a6, a7, a8, a9, a10, a11] 8 = a8 from rfl, show gC [a0, a1, a2, a3, a4, a5, a6, a7, a8, a9, a10, a11] 1 = a1 from rfl]
  clear hc
  have E1 := Lib.hid (ne_2 hb)
  have E5 := Lib.hid (ne_32 hb)
  unfold B64 at h8 h1 hb
  unfold andV at hb E1 E5 ⊢
  go_enter Tryd.func24, Tryd.ntmps24
  go_wp2_with fail
  have I0 := Lib.hid (ints_0 (w.alloc (.cells #[.int .u64 a0, .int .u64 a1, .int .u64 a2, .int .u64 a3, .int .u64 a4, .int .u64 a5, .int .u64 a6, .int .u64 a7, .int .u64 a8, .int .u64 a9, .int .u64 a10, .int .u64 a11] 24)))
  have I1 := Lib.hid (ints_1 (w.alloc (.cells #[.int .u64 a0, .int .u64 a1, .int .u64 a2, .int .u64 a3, .int .u64 a4, .int .u64 a5, .int .u64 a6, .int .u64 a7, .int .u64 a8, .int .u64 a9, .int .u64 a10, .int .u64 a11] 24)))
  go_loop [13] (fun i => ∃ k : Nat, k ≤ 2 ∧ i = .int .i64 k ∧ (k ≥ 1 → onV (bits .and .u64 a8 a1) 2 = false) ∧ (k ≥ 2 → onV (bits .and .u64 a8 a1) 32 = false)) (fun i => 2 - (intOf i).toNat)
  case atStart => exact ⟨0, by omega, rfl, fun h => absurd h (by omega), fun h => absurd h (by omega)⟩
  case round =>
    obtain ⟨k, hk, rfl, hp1, hp2⟩ := hrel
    have HP1 := Lib.hid hp1
    have HP2 := Lib.hid hp2
    clear hp1 hp2
    obtain rfl | rfl | rfl : k = 0 ∨ k = 1 ∨ k = 2 := by omega
    · have R := I0.out
      have d := E1.out
      cases e : onV (bits .and .u64 a8 a1) 2
      · rw [e] at d
        go_wp2_with fail
        go_round
        case rel => exact ⟨1, by omega, rfl, fun _ => by simp [e], fun h => absurd h (by omega)⟩
        case measure => simp [intOf]
      · rw [e] at d
        have EV := Lib.hid (show firstV (bits .and .u64 a8 a1) = 1 by unfold firstV; rw [e]; rfl)
        have EA := Lib.hid (show anyV (bits .and .u64 a8 a1) = true by unfold anyV; rw [e]; rfl)
        clear e
        go_wp2_with fail
        go_ret2
        exact ⟨by rw [EV.out, EA.out]; rfl, G.out⟩
    · have R := I1.out
      have d := E5.out
      have e1 := Lib.hid (HP1.out (by omega))
      cases e : onV (bits .and .u64 a8 a1) 32
      · rw [e] at d
        go_wp2_with fail
        go_round
        case rel => exact ⟨2, by omega, rfl, fun _ => e1.out, fun _ => by simp [e]⟩
        case measure => simp [intOf]
      · rw [e] at d
        have EV := Lib.hid (show firstV (bits .and .u64 a8 a1) = 5 by unfold firstV; rw [e1.out, e]; rfl)
        have EA := Lib.hid (show anyV (bits .and .u64 a8 a1) = true by unfold anyV; rw [e1.out, e]; rfl)
        clear e
        go_wp2_with fail
        go_ret2
        exact ⟨by rw [EV.out, EA.out]; rfl, G.out⟩
    · have e1 := HP1.out (by omega)
      have e2 := HP2.out (by omega)
      have EV := Lib.hid (show firstV (bits .and .u64 a8 a1) = 0 by unfold firstV; rw [e1, e2]; rfl)
      have EA := Lib.hid (show anyV (bits .and .u64 a8 a1) = false by unfold anyV; rw [e1, e2]; rfl)
      clear e1 e2
      go_wp2_with fail
      go_ret2
      exact ⟨by rw [EV.out, EA.out]; rfl, G.out⟩
theorem Wakes_c (c : Cs) (hc : C.Good c) (w : World) (hT : Ints w) :
    Calls Tryd.prog 13 #[vC c] w fun e w' => e = .returned (.bool (anyV (bothV c))) ∧ w.grownBy w' none := by
  have F := Lib.hid (first_c c hc _ (hT.grown (gr_alloc (gr_refl w none) (.cells (lC c).toArray 24))))
  have G := Lib.hid (gr_alloc (gr_refl w none) (.cells (lC c).toArray 24))
  obtain ⟨a0, a1, a2, a3, a4, a5, a6, a7, a8, a9, a10, a11, rfl⟩ := twelve hc.1
  rw [vC_12] at F ⊢
  generalize firstV (bothV [a0, a1, a2, a3, a4, a5, a6, a7, a8, a9, a10, a11]) = f at *
  generalize anyV (bothV [a0, a1, a2, a3, a4, a5, a6, a7, a8, a9, a10, a11]) = y at *
  clear hc hT
  go_enter Tryd.func13, Tryd.ntmps13
  go_wp2_with fail
  refine F.out.mono ?_
  rintro e w' ⟨rfl, hG⟩
  unfold vI
  go_wp2_with fail
  go_ret
  exact ⟨rfl, gr_trans G.out hG⟩
theorem Pending_c (c : Cs) (hc : C.Good c) (p : Int) (hp : -9223372036854775808 ≤ p ∧ p ≤ 9223372036854775807) (w : World) (hT : Ints w) :
    Calls Tryd.prog 11 #[vC c, .int .i64 p] w fun e w' => e = .returned (vI (takeV (gC c 0) (bothV c) p) (takesV (gC c 0) (bothV c) p)) ∧ w.grownBy w' none := by
  have L := Lib.hid (lets_c c hc p hp (w.alloc (.cells (lC c).toArray 24)))
  have HR := Lib.hid (Row.fresh w 24 (lC c))
  have G := Lib.hid (gr_alloc (gr_refl w none) (.cells (lC c).toArray 24))
  have F := Lib.hid (fun W hW => first_c c hc W (hT.grown hW))
  unfold takeV takesV
  generalize firstV (bothV c) = f at *
  generalize anyV (bothV c) = y at *
  generalize letsV (gC c 0) p = l at *
  obtain ⟨a0, a1, a2, a3, a4, a5, a6, a7, a8, a9, a10, a11, rfl⟩ := twelve hc.1
  rw [vC_12] at F L ⊢
  clear hc hT
  go_enter Tryd.func11, Tryd.ntmps11
  go_wp2_with fail
  refine L.out.mono ?_
  rintro e w1 ⟨rfl, hG⟩
  have R1 := HR.out.grown hG (by simp)
  have G1 := Lib.hid (gr_trans G.out hG)
  obtain ⟨k0, k1, k2, k3, k4, k5, k6, k7, k8, k9, k10, k11⟩ := cells12 R1
  cases l
  · go_wp2_with fail
    go_ret2
    exact ⟨rfl, G1.out⟩
  · go_wp2_with fail
    refine (F.out _ G1.out).mono ?_
    rintro e w2 ⟨rfl, hG2⟩
    unfold vI
    go_wp2_with fail
    go_ret2
    exact ⟨rfl, gr_trans G1.out hG2⟩
end Go.Proofs.YtkfmcbhoendocaaDoor
