/-
  Proved: for any word and any half, the law EncBack returns true: what is laid as a word is that instruction; the instruction of any word is laid as one that is no greater, and is the same; and one of a half is laid as a whole word, but for its length.
  Conditions: none beyond the statement's own (its listed variables are tied to the program's text).
-/
import Derived.Test.YtpbeamnogfjagaaGreatDoorRows
import Derived.Test.YtpbeamnogfjagaaGreatDoorCards
import Derived.Test.YtpbeamnogfjagaaGreatDoorTie
import Derived.Test.YtpbeamnogfjagaaGreatDoorOpen
import Derived.Lib.Hide
import Derived.SevenTiedAt
import Derived.Test.YtpbeamnogfjagaaGreatDoorEncDoor
import Derived.Test.YtpbeamnogfjagaaGreatDoorEncM3
import Derived.Test.YtpbeamnogfjagaaGreatDoorCompHf
import Derived.Test.YtpbeamnogfjagaaGreatDoorEncHc
import Derived.Deep.RegionHeld3
namespace Go.Proofs.YtpbeamnogfjagaaGreatDoor.encBack
open Go Go.ChangeShapes Go.WideShapes Go.ChangeAt Go.RowKit F W M D E refHalf
set_option linter.unusedVariables false

/-- The instruction of a word has a word, which is that instruction, and no greater. -/
theorem word_back (x : Nat) (hx : x < 4294967296) {o rd rs1 rs2 im : Int} (hV : D.wordV x = (o, rd, rs1, rs2, im)) :
    okE o rd rs1 rs2 im 4 = true ∧ wordE o rd rs1 rs2 im 4 ≤ x := by
  have hC := word_can x
  rw [hV] at hC
  have hk := (okE_iff o rd rs1 rs2 im 4).2 ⟨hC, rfl⟩
  refine ⟨hk, ?_⟩
  rw [wordE, if_pos hk, layI_can _ _ _ _ _ hC]
  by_cases h0 : o = 0
  · subst h0
    obtain ⟨_, _, _, _, hl⟩ := hC
    simp only at hl
    rw [lim0 _ _ _ _ _ (by omega)] at hl
    obtain ⟨rfl, rfl, rfl, rfl⟩ := hl
    rw [show layW (0 : Int) ((0 : Int), (0 : Int), (0 : Int), (0 : Int)) = 0 from by decide +kernel]
    exact Nat.zero_le _
  · have := lay_le x hx (by rw [hV]; exact h0)
    rw [hV] at this
    exact this
theorem rHalf_at {h : Nat} {o rd rs1 rs2 im : Int} (hh : h < 65536) (hV : halfV h = (o, rd, rs1, rs2, im)) (w : World) :
    Calls Tryz.prog 16 #[.int .u16 h] w fun e w' => e = .returned (.agg #[.int .i64 o, .int .i64 rd, .int .i64 rs1, .int .i64 rs2, .int .i64 im, .int .i64 2]) ∧ w.grownBy w' none := by
  have := rHalf_c h hh w
  rw [hV] at this
  exact this
theorem heldT_gr {w0 w : World} {b : Nat} {o rd rs1 rs2 im n : Int} (h : HeldT w0 b o rd rs1 rs2 im n w) : w0.grownBy w none := h.gr
set_option maxRecDepth 100000 in
set_option maxHeartbeats 4000000 in
theorem way (x : Nat) (hx : x < 4294967296) (h : Nat) (hh : h < 65536) (o rd rs1 rs2 im : Int) (hV : D.wordV x = (o, rd, rs1, rs2, im)) (p sd ss1 ss2 jm : Int) (hH : halfV h = (p, sd, ss1, ss2, jm)) (hp : p = 0 ∨ ((p == 0) = false ∧ D.Can p (sd, ss1, ss2, jm))) (w : World) (hL : Tabs w) :
    Calls Tryz.prog 4 #[.int .u32 x, .int .u16 h] w fun e w' => e = .returned (.bool true) ∧ Below w.heap.size w w' := by
  have hC := word_can x
  rw [hV] at hC
  have HX := Lib.hid (fun W => rWord_at hx hV W)
  obtain ⟨k1, k2⟩ := word_back x hx hV
  obtain ⟨_, u1, u2, _⟩ := ok_word k1
  have HV := Lib.hid (fun W => rWord_at u1 u2 W)
  obtain ⟨i0, i1, i2, i3, i4⟩ := can_i64 hC
  have HW := Lib.hid (fun W h => Word_e o rd rs1 rs2 im 4 i0 i1 i2 i3 i4 W h)
  rw [k1] at HW
  have HY := Lib.hid (fun W => rHalf_at hh hH W)
  generalize wordE o rd rs1 rs2 im 4 = v at *
  have hvx : v ≤ x := k2
  clear hV hC k1 k2 u1 u2 hH i0 i1 i2 i3 i4
  have HLw0 := Lib.hid hL
  go_enter Tryz.func4, Tryz.ntmps4
  go_wp2_with fail
  refine (shown06_c _ hL).mono ?_
  rintro e w1 ⟨rfl, hG1⟩
  go_wp2_with fail
  refine (HX.out _).mono ?_
  rintro e w2 ⟨rfl, hG2⟩
  have hG12 := gr_trans hG1 hG2
  have hS2 : HeldT w w2.heap.size o rd rs1 rs2 im 4 (w2.alloc (.cells #[.int .i64 o, .int .i64 rd, .int .i64 rs1, .int .i64 rs2, .int .i64 im, .int .i64 4] 23)) := heldT_of (Row.fresh w2 _ _) (hL.grown (gr_alloc hG12 _)) (gr_alloc hG12 _)
  go_wp2_with fail
  refine (HW.out _ hS2.tabs.1).mono ?_
  rintro e w3 ⟨rfl, hG3⟩
  have hS0 := hS2.on hG3
  clear hS2 hG1 hG2 hG12 hG3 hL HX HW
  unfold HeldT at hS0
  generalize w2.heap.size = bx at *
  go_wp2_with fail
  refine wp_region_held_drew (S := fun w' => w'.cell? ⟨bx, 0, none⟩ = some (.int .i64 o) ∧ w'.cell? ⟨bx, 1, none⟩ = some (.int .i64 rd) ∧ w'.cell? ⟨bx, 2, none⟩ = some (.int .i64 rs1) ∧ w'.cell? ⟨bx, 3, none⟩ = some (.int .i64 rs2) ∧ w'.cell? ⟨bx, 4, none⟩ = some (.int .i64 im) ∧ w'.cell? ⟨bx, 5, none⟩ = some (.int .i64 4) ∧ Row w' bx 23 [.int .i64 o, .int .i64 rd, .int .i64 rs1, .int .i64 rs2, .int .i64 im, .int .i64 4] ∧ Tabs w' ∧ w.grownBy w' none) (by kernel_rfl) ?_ (fun hHeld => ?_)
  · exact HeldT.on (gr_drew (gr_refl _ none)) hS0
  refine wpAnyH_take (i := 0) (oi := { dst := some 22, op := Op.move (Operand.tmp 8), type := 4, pos := "law.go:31", after := #[], guard := none }) (v := ?_) rfl (by kernel_rfl) (by kernel_rfl) (by kernel_rfl) (fun _ _ _ h => h) (Or.inl ⟨by rfl, ?_⟩) (by assumption) ?_
  rotate_left
  · (intro w hSw; (try dsimp only at hSw); go_simp; try with_reducible rfl)
  try simp only [Act.put, List.setIfInBounds_toArray, List.set_cons_zero, List.set_cons_succ]
  refine wpAnyH_take (i := 1) (oi := { dst := some 23, op := Op.unOp UnOp.not 4 (Operand.tmp 22), type := 4, pos := "law.go:31", after := #[{ on := 0, ground := Ground.data }], guard := none }) (v := ?_) rfl (by kernel_rfl) (by kernel_rfl) (by kernel_rfl) (fun _ _ _ h => h) (Or.inl ⟨by rfl, ?_⟩) (by assumption) ?_
  rotate_left
  · (intro w hSw; (try dsimp only at hSw); go_simp; try with_reducible rfl)
  try simp only [Act.put, List.setIfInBounds_toArray, List.set_cons_zero, List.set_cons_succ]
  refine wpAnyH_take (i := 2) (oi := { dst := some 24, op := Op.move (Operand.tmp 23), type := 4, pos := "law.go:31", after := #[{ on := 1, ground := Ground.data }], guard := none }) (v := ?_) rfl (by kernel_rfl) (by kernel_rfl) (by kernel_rfl) (fun _ _ _ h => h) (Or.inl ⟨by rfl, ?_⟩) (by assumption) ?_
  rotate_left
  · (intro w hSw; (try dsimp only at hSw); go_simp; try with_reducible rfl)
  try simp only [Act.put, List.setIfInBounds_toArray, List.set_cons_zero, List.set_cons_succ]
  refine wpAnyH_take (i := 3) (oi := { dst := some 25, op := Op.move (Operand.tmp 7), type := 25, pos := "law.go:31", after := #[{ on := 2, ground := Ground.guard }], guard := some (2, false) }) (v := ?_) rfl (by kernel_rfl) (by kernel_rfl) (by kernel_rfl) (fun _ _ _ h => h) (Or.inl ⟨by rfl, ?_⟩) (by assumption) ?_
  rotate_left
  · (intro w hSw; (try dsimp only at hSw); go_simp; try with_reducible rfl)
  try simp only [Act.put, List.setIfInBounds_toArray, List.set_cons_zero, List.set_cons_succ]
  refine wpAnyH_take (i := 5) (oi := { dst := some 27, op := Op.load 23 (Operand.tmp 6), type := 23, pos := "law.go:31", after := #[{ on := 2, ground := Ground.guard }], guard := some (2, false) }) (v := ?_) rfl (by kernel_rfl) (by kernel_rfl) (by kernel_rfl) (fun _ _ _ h => h) (Or.inl ⟨by rfl, ?_⟩) (by assumption) ?_
  rotate_left
  · (intro w hSw; (try dsimp only at hSw); go_simp; try with_reducible rfl)
  try simp only [Act.put, List.setIfInBounds_toArray, List.set_cons_zero, List.set_cons_succ]
  refine wpAnyH_ready (rs := [4]) (by kernel_rfl) (by simp) ?_
  refine AllReadyH.cons (o := { dst := some 26, op := Op.call { callee := Callee.value (Operand.func 15), args := #[Operand.tmp 25], argTypes := #[25] }, type := 23, pos := "law.go:31", after := #[{ on := 3, ground := Ground.data }, { on := 2, ground := Ground.chain }, { on := 2, ground := Ground.guard }], guard := some (2, false) }) rfl (fun K hK => ?_) AllReadyH.nil
  go_simp
  go_at_call 15
  refine (HV.out _).mono ?_
  rintro e wS ⟨rfl, hg⟩
  go_wp2_with fail
  refine hK.out _ _ ?_ (fun hHeld => ?_)
  · exact HeldT.on hg hHeld
  clear hK K
  try simp only [Act.put, List.setIfInBounds_toArray, List.set_cons_zero, List.set_cons_succ]
  refine wpAnyH_take (i := 6) (oi := { dst := some 28, op := Op.binOp BinOp.neq 23 (Operand.tmp 26) (Operand.tmp 27) 23, type := 4, pos := "law.go:31", after := #[{ on := 4, ground := Ground.data }, { on := 5, ground := Ground.data }, { on := 2, ground := Ground.guard }], guard := some (2, false) }) (v := ?_) rfl (by kernel_rfl) (by kernel_rfl) (by kernel_rfl) (fun _ _ _ h => h) (Or.inl ⟨by rfl, ?_⟩) (by assumption) ?_
  rotate_left
  · (intro w hSw; (try dsimp only at hSw); go_simp; try with_reducible rfl)
  try simp only [Act.put, List.setIfInBounds_toArray, List.set_cons_zero, List.set_cons_succ]
  refine wpAnyH_take (i := 7) (oi := { dst := some 29, op := Op.pick (Operand.tmp 24) (Operand.const (Value.bool true)) (Operand.tmp 28), type := 4, pos := "law.go:31", after := #[{ on := 2, ground := Ground.data }, { on := 6, ground := Ground.data }], guard := none }) (v := ?_) rfl (by kernel_rfl) (by kernel_rfl) (by kernel_rfl) (fun _ _ _ h => h) (Or.inl ⟨by rfl, ?_⟩) (by assumption) ?_
  rotate_left
  · (intro w hSw; (try dsimp only at hSw); go_simp; try with_reducible rfl)
  try simp only [Act.put, List.setIfInBounds_toArray, List.set_cons_zero, List.set_cons_succ]
  refine wpAnyH_take (i := 8) (oi := { dst := some 30, op := Op.move (Operand.tmp 29), type := 4, pos := "law.go:31", after := #[{ on := 7, ground := Ground.data }, { on := 4, ground := Ground.chain }], guard := none }) (v := ?_) rfl (by kernel_rfl) (by kernel_rfl) (by kernel_rfl) (fun _ _ _ h => h) (Or.inl ⟨by rfl, ?_⟩) (by assumption) ?_
  rotate_left
  · (intro w hSw; (try dsimp only at hSw); go_simp; try with_reducible rfl)
  try simp only [Act.put, List.setIfInBounds_toArray, List.set_cons_zero, List.set_cons_succ]
  refine wpAnyH_take (i := 9) (oi := { dst := some 31, op := Op.move (Operand.tmp 7), type := 25, pos := "law.go:31", after := #[{ on := 8, ground := Ground.guard }], guard := some (8, false) }) (v := ?_) rfl (by kernel_rfl) (by kernel_rfl) (by kernel_rfl) (fun _ _ _ h => h) (Or.inl ⟨by rfl, ?_⟩) (by assumption) ?_
  rotate_left
  · (intro w hSw; (try dsimp only at hSw); go_simp; try with_reducible rfl)
  try simp only [Act.put, List.setIfInBounds_toArray, List.set_cons_zero, List.set_cons_succ]
  refine wpAnyH_take (i := 10) (oi := { dst := some 32, op := Op.move (Operand.tmp 0), type := 25, pos := "law.go:31", after := #[{ on := 8, ground := Ground.guard }], guard := some (8, false) }) (v := ?_) rfl (by kernel_rfl) (by kernel_rfl) (by kernel_rfl) (fun _ _ _ h => h) (Or.inl ⟨by rfl, ?_⟩) (by assumption) ?_
  rotate_left
  · (intro w hSw; (try dsimp only at hSw); go_simp; try with_reducible rfl)
  try simp only [Act.put, List.setIfInBounds_toArray, List.set_cons_zero, List.set_cons_succ]
  refine wpAnyH_take (i := 11) (oi := { dst := some 33, op := Op.binOp BinOp.gtr 25 (Operand.tmp 31) (Operand.tmp 32) 25, type := 4, pos := "law.go:31", after := #[{ on := 9, ground := Ground.data }, { on := 10, ground := Ground.data }, { on := 8, ground := Ground.guard }], guard := some (8, false) }) (v := .bool false) rfl (by kernel_rfl) (by kernel_rfl) (by kernel_rfl) (fun _ _ _ h => h) (Or.inl ⟨by rfl, ?_⟩) (by assumption) ?_
  · (intro w hSw; (try dsimp only at hSw); go_simp <;> omega)
  try simp only [Act.put, List.setIfInBounds_toArray, List.set_cons_zero, List.set_cons_succ]
  refine wpAnyH_take (i := 12) (oi := { dst := some 34, op := Op.move (Operand.tmp 33), type := 4, pos := "law.go:31", after := #[{ on := 11, ground := Ground.data }, { on := 8, ground := Ground.chain }, { on := 8, ground := Ground.guard }], guard := some (8, false) }) (v := ?_) rfl (by kernel_rfl) (by kernel_rfl) (by kernel_rfl) (fun _ _ _ h => h) (Or.inl ⟨by rfl, ?_⟩) (by assumption) ?_
  rotate_left
  · (intro w hSw; (try dsimp only at hSw); go_simp; try with_reducible rfl)
  try simp only [Act.put, List.setIfInBounds_toArray, List.set_cons_zero, List.set_cons_succ]
  refine wpAnyH_take (i := 13) (oi := { dst := some 35, op := Op.fieldAddr 23 (Operand.tmp 6) 0, type := 0, pos := "law.go:31", after := #[{ on := 12, ground := Ground.guard }], guard := some (12, true) }) (v := undef) rfl (by kernel_rfl) (by kernel_rfl) (by kernel_rfl) (fun _ _ _ h => h) (Or.inr ⟨by rfl, rfl⟩) (by assumption) ?_
  try simp only [Act.put, List.setIfInBounds_toArray, List.set_cons_zero, List.set_cons_succ]
  refine wpAnyH_take (i := 14) (oi := { dst := some 36, op := Op.load 3 (Operand.tmp 35), type := 3, pos := "law.go:31", after := #[{ on := 13, ground := Ground.data }, { on := 12, ground := Ground.guard }], guard := some (12, true) }) (v := undef) rfl (by kernel_rfl) (by kernel_rfl) (by kernel_rfl) (fun _ _ _ h => h) (Or.inr ⟨by rfl, rfl⟩) (by assumption) ?_
  try simp only [Act.put, List.setIfInBounds_toArray, List.set_cons_zero, List.set_cons_succ]
  refine wpAnyH_take (i := 15) (oi := { dst := some 37, op := Op.binOp BinOp.neq 3 (Operand.tmp 36) (Operand.const (Value.int IntKind.i64 0)) 3, type := 4, pos := "law.go:31", after := #[{ on := 14, ground := Ground.data }, { on := 12, ground := Ground.guard }], guard := some (12, true) }) (v := undef) rfl (by kernel_rfl) (by kernel_rfl) (by kernel_rfl) (fun _ _ _ h => h) (Or.inr ⟨by rfl, rfl⟩) (by assumption) ?_
  try simp only [Act.put, List.setIfInBounds_toArray, List.set_cons_zero, List.set_cons_succ]
  refine wpAnyH_take (i := 16) (oi := { dst := some 38, op := Op.pick (Operand.tmp 34) (Operand.tmp 37) (Operand.const (Value.bool false)), type := 4, pos := "law.go:31", after := #[{ on := 12, ground := Ground.data }, { on := 15, ground := Ground.data }, { on := 8, ground := Ground.guard }], guard := some (8, false) }) (v := ?_) rfl (by kernel_rfl) (by kernel_rfl) (by kernel_rfl) (fun _ _ _ h => h) (Or.inl ⟨by rfl, ?_⟩) (by assumption) ?_
  rotate_left
  · (intro w hSw; (try dsimp only at hSw); go_simp; try with_reducible rfl)
  try simp only [Act.put, List.setIfInBounds_toArray, List.set_cons_zero, List.set_cons_succ]
  refine wpAnyH_take (i := 17) (oi := { dst := some 39, op := Op.pick (Operand.tmp 30) (Operand.const (Value.bool true)) (Operand.tmp 38), type := 4, pos := "law.go:31", after := #[{ on := 8, ground := Ground.data }, { on := 16, ground := Ground.data }], guard := none }) (v := ?_) rfl (by kernel_rfl) (by kernel_rfl) (by kernel_rfl) (fun _ _ _ h => h) (Or.inl ⟨by rfl, ?_⟩) (by assumption) ?_
  rotate_left
  · (intro w hSw; (try dsimp only at hSw); go_simp; try with_reducible rfl)
  try simp only [Act.put, List.setIfInBounds_toArray, List.set_cons_zero, List.set_cons_succ]
  refine wpAnyH_done (by kernel_rfl) ?_ _
  all_goals
    have hSt := Lib.hid (HeldT.tabs hHeld)
    have hSg := Lib.hid (HeldT.gr hHeld)
    clear hHeld HV
    go_wp2_with fail
    refine (HY.out _).mono ?_
    rintro e w5 ⟨rfl, hG5⟩
    have hG5' := gr_trans hSg.out hG5
    have hT5 := hSt.out.grown hG5
    rcases hp with rfl | ⟨hp0, hcl⟩
    · have HB := Lib.hid (gr_below (gr_alloc hG5' (.cells #[.int .i64 0, .int .i64 sd, .int .i64 ss1, .int .i64 ss2, .int .i64 jm, .int .i64 2] 23)))
      clear hG5 hG5' hT5 hSg hSt
      go_wp2_with fail
      go_ret
      exact ⟨rfl, HB.out⟩
    · have hC := hcl
      obtain ⟨i0, i1, i2, i3, i4⟩ := can_i64 hC
      have k2 : okE p sd ss1 ss2 jm 2 = false := Bool.eq_false_iff.2 fun hk => by have := ((okE_iff p sd ss1 ss2 jm 2).1 hk).2; omega
      have k4 := (okE_iff p sd ss1 ss2 jm 4).2 ⟨hC, rfl⟩
      have HW2 := Lib.hid (fun W h => Word_e p sd ss1 ss2 jm 2 i0 i1 i2 i3 i4 W h)
      have HW4 := Lib.hid (fun W h => Word_e p sd ss1 ss2 jm 4 i0 i1 i2 i3 i4 W h)
      obtain ⟨_, u1, u2, _⟩ := ok_word k4
      have HV4 := Lib.hid (fun W => rWord_at u1 u2 W)
      rw [k2] at HW2
      rw [k4] at HW4
      generalize wordE p sd ss1 ss2 jm 4 = v4 at *
      generalize wordE p sd ss1 ss2 jm 2 = v2 at *
      clear k2 k4 u1 u2 hC hcl i0 i1 i2 i3 i4
      have hS5 : HeldT w w5.heap.size p sd ss1 ss2 jm 2 (w5.alloc (.cells #[.int .i64 p, .int .i64 sd, .int .i64 ss1, .int .i64 ss2, .int .i64 jm, .int .i64 2] 23)) := heldT_of (Row.fresh w5 _ _) (hT5.grown (gr_alloc (gr_refl _ _) _)) (gr_alloc hG5' _)
      have hle : w.heap.size ≤ w5.heap.size := hG5'.size
      clear hG5 hG5' hT5 hSg hSt
      go_wp2_with fail
      refine (HW2.out _ hS5.tabs.1).mono ?_
      rintro e w6 ⟨rfl, hG6⟩
      have hS6 := hS5.on hG6
      obtain ⟨c0, c1, c2, c3, c4, c5, hR6, hT6, hG6'⟩ := hS6
      have f5 := hR6.free 5
      have hR7 := hR6.put 5 (.int .i64 4)
      have m0 := hR7.cell 0
      have m1 := hR7.cell 1
      have m2 := hR7.cell 2
      have m3 := hR7.cell 3
      have m4 := hR7.cell 4
      have m5 := hR7.cell 5
      simp only [List.set_cons_zero, List.set_cons_succ, List.getElem?_cons_zero, List.getElem?_cons_succ] at m0 m1 m2 m3 m4 m5 hR7
      have hG7 : w.grownBy (w6.setCell ⟨w5.heap.size, 5, none⟩ (.int .i64 4)) none := gr_row (gr_set (gr_none hG6' (some w5.heap.size)) _) hle
      have HLw := Lib.hid HLw0.out
      have hS7 : HeldT w w5.heap.size p sd ss1 ss2 jm 4 (w6.setCell ⟨w5.heap.size, 5, none⟩ (.int .i64 4)) := heldT_of hR7 (HLw.out.grown hG7) hG7
      have HS7 := Lib.hid hS7
      clear hS5 hG6 hS7 hR6 hT6 hG6' hR7 hG7
      go_wp2_with fail
      refine (HW4.out _ HS7.out.tabs.1).mono ?_
      rintro e w8 ⟨rfl, hG8⟩
      have hS0 := HS7.out.on hG8
      clear c0 c1 c2 c3 c4 c5 f5 m0 m1 m2 m3 m4 m5 HS7 hG8 HLw
      unfold HeldT at hS0
      generalize w5.heap.size = b5 at *
      go_wp2_with fail
      go_region_held3 (fun w' => w'.cell? ⟨b5, 0, none⟩ = some (.int .i64 p) ∧ w'.cell? ⟨b5, 1, none⟩ = some (.int .i64 sd) ∧ w'.cell? ⟨b5, 2, none⟩ = some (.int .i64 ss1) ∧ w'.cell? ⟨b5, 3, none⟩ = some (.int .i64 ss2) ∧ w'.cell? ⟨b5, 4, none⟩ = some (.int .i64 jm) ∧ w'.cell? ⟨b5, 5, none⟩ = some (.int .i64 4) ∧ Row w' b5 23 [.int .i64 p, .int .i64 sd, .int .i64 ss1, .int .i64 ss2, .int .i64 jm, .int .i64 4] ∧ Tabs w' ∧ w.grownBy w' none)
        (first | assumption | (exact HeldT.on (gr_drew (gr_refl _ none)) (by assumption)) | (exact HeldT.on (by assumption) (by assumption)))
        ((go_at_call 15; refine (HV4.out _).mono ?_; rintro e w' ⟨rfl, hg⟩))
      rename_i hHeld
      have hBe := gr_below (HeldT.gr hHeld)
      clear hHeld
      go_wp2_with fail
      go_ret
      exact ⟨rfl, hBe⟩
theorem walk (w : World) (hL : Tabs w) (a0 : Int) (w0 : (Lit.int .u32 a0).wf = true) (a1 : Int) (w1 : (Lit.int .u16 a1).wf = true) :
    Calls Tryz.prog 4 #[.int .u32 a0, .int .u16 a1] w fun e w' => e = .returned (.bool true) ∧ Below w.heap.size w w' := by
  have h0 := bounds_u32 w0
  have h1 := bounds_u16 w1
  obtain ⟨x, rfl⟩ : ∃ x : Nat, a0 = x := ⟨a0.toNat, by omega⟩
  obtain ⟨h, rfl⟩ : ∃ h : Nat, a1 = h := ⟨a1.toNat, by omega⟩
  obtain ⟨o, rd, rs1, rs2, im, hV⟩ : ∃ o rd rs1 rs2 im, D.wordV x = (o, rd, rs1, rs2, im) := ⟨_, _, _, _, _, rfl⟩
  obtain ⟨p, sd, ss1, ss2, jm, hH⟩ : ∃ p sd ss1 ss2 jm, halfV h = (p, sd, ss1, ss2, jm) := ⟨_, _, _, _, _, rfl⟩
  by_cases hp : p = 0
  · exact way x (by omega) h (by omega) o rd rs1 rs2 im hV p sd ss1 ss2 jm hH (Or.inl hp) w hL
  · exact way x (by omega) h (by omega) o rd rs1 rs2 im hV p sd ss1 ss2 jm hH (Or.inr ⟨by simpa using hp, half_can h hH hp⟩) w hL

theorem own : ownKnob Tryz.prog.godebug = none := by kernel_rfl
theorem laidOut : laidOutB Tryz.prog = true := by kernel_rfl

set_option maxRecDepth 100000 in
theorem lifted (os : Os) (started : os.Started) (H : Type) (enc : TypeId × Value → H) :
    ReturnsInHanded {} Tryz.checked os 4 .any (fun w args => (Rows.encBackSpec.pre enc Tryz.prog Tryz.f4 [] false w args ∧ laidMetH Tryz.prog laidL w) ∧ sizedMet enc Tryz.prog Tryz.f4 (OpenSpec.ofChange Rows.encBackSpec) false w args)
      (Rows.encBackSpec.post enc Tryz.prog Tryz.f4 false true false false) := by
  refine returnsInHanded_of_change_and (C := Tryz.checked) (X := fun w _ => laidMetH Tryz.prog laidL w) (fun _ _ _ hh h => h.of_heap hh) own started (by kernel_rfl) Tryz.func4
    (ChangeSpec.witness_shaped (enc := enc) (C := Tryz.checked) (os := os) (X := fun w _ => laidMetH Tryz.prog laidL w) false (World.doorLaid Tryz.prog 400 os) #[.int .u32 0, .int .u16 0] 8 rfl (World.shaped_of_RefB (by kernel_rfl) (by kernel_rfl)) (by kernel_rfl) (by kernel_rfl) (by kernel_rfl) (door_met os _)) ?_
  intro W base args ds gs before hval0 hW _ _ hL _
  have hval : ∀ (j : Nat) t v, Tryz.f4.params[j]? = some t → args[j]? = some v → Value.okWide Tryz.prog W .any base t v := hval0
  have hW' := hW
  obtain ⟨p, q, hA0, hV, rfl, hfz, hnd⟩ := hW
  have hA : DataW.TrodAll enc Tryz.prog W 0 (fun _ => true) true Tryz.f4.params.toList args.toList ds p := hA0
  rw [Tryz.params4] at hA hval
  obtain ⟨v0, vs0, d0, ds0, p0, q0, hargs, rfl, rfl, h0, r0⟩ := trodAll_cons hA
  obtain ⟨v1, vs1, d1, ds1, p1, q1, rfl, rfl, rfl, h1, r1⟩ := trodAll_cons r0
  obtain ⟨rfl, rfl, rfl⟩ := trodAll_nil r1
  obtain rfl : args = #[v0, v1] := by cases args; simp_all
  obtain ⟨rfl, rfl⟩ := trodVars_none hV
  clear hA0 hval0 hA
  have k0 := h0
  have lt0 : ∀ x ∈ p0, x.block < W.heap.size := by obtain ⟨m, hm⟩ := k0; exact DataW.trod_lt m _ _ _ hm
  obtain ⟨a0, rfl, rfl, rfl, w0⟩ := open_int Tryz.underlying25 (hval 0 25 v0 rfl rfl) h0
  have k1 := h1
  have lt1 : ∀ x ∈ p1, x.block < W.heap.size := by obtain ⟨m, hm⟩ := k1; exact DataW.trod_lt m _ _ _ hm
  obtain ⟨a1, rfl, rfl, rfl, w1⟩ := open_int Tryz.underlying31 (hval 1 31 v1 rfl rfl) h1
  refine (walk W (of_laid hL) a0 w0 a1 w1).mono fun e W' ⟨he, bel⟩ => ?_
  subst he
  exact ⟨_, rfl, _, _, _, [], _, [], hW', trodAll_mk1 (shut_bool Tryz.underlying4 _), (trodAll_cons_mk (Below.trod laidOut (by kernel_rfl) (of_decide_eq_true (by kernel_rfl)) k0 bel lt0) (trodAll_cons_mk (Below.trod laidOut (by kernel_rfl) (of_decide_eq_true (by kernel_rfl)) k1 bel lt1) trodAll_mk0)), rfl, bel.frame _, fun h => by cases h⟩

theorem over : Rows.EncBackSaid :=
  OpenClaim.holds_of_wide 4 Tryz.f4 rfl rfl rfl rfl rfl rfl rfl ⟨rfl, rfl, rfl, rfl, rfl⟩ rfl rfl rfl rfl rfl (by kernel_rfl) Tryz.func4 (by kernel_rfl)
    (of_decide_eq_true (by kernel_rfl)) (by unfold Func.isWrapper; first | (rw [if_pos (by decide +kernel)]; kernel_rfl) | (rw [if_neg (by decide +kernel)]; exact ⟨rfl, rfl⟩))
    (fun os started H enc _ => lifted os started H enc)

/-- The statement: the card, its listed variable tied to the program's text. -/
theorem proved : Rows.EncBackCardSaid :=
  Claim7.holds_tied_plain_at .later [] [.data, .data, .data, .data, .data, .data] true (true, "82b3145cddd84957564239319662a7f032c6bc35cca285d7f35570caedf0bb32") false
    over (fun _ h => by cases h) (by kernel_rfl) (fun _ h => by cases h) encBack_row_tie rfl ⟨rfl, rfl⟩ (by kernel_rfl) rfl
    (fun f fn hf hfn => by
      obtain rfl : f = 4 := Option.some.inj ((show Tryz.prog.funcNamed "suzerain/suzerainlaw06.EncBack" = some 4 by kernel_rfl).symm.trans hf) |>.symm
      obtain rfl : fn = Tryz.f4 := (Option.some.inj (Tryz.func4.symm.trans hfn)).symm
      exact ⟨by kernel_rfl, fun j t ht => by
        rw [Tryz.params4] at ht
        have hm : t ∈ [25, 31] := by simpa using Array.mem_of_getElem? ht
        have hall : ([25, 31].all fun u => !Tryz.prog.wantsStandIn u) = true := by kernel_rfl
        exact (show Tryz.prog.wantsStandIn t = false by simpa using List.all_eq_true.1 hall t hm)⟩)
    (by kernel_rfl)
#print axioms proved

end Go.Proofs.YtpbeamnogfjagaaGreatDoor.encBack
