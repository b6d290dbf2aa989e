/-
  Proved: for any word, the law DecodeNone returns true: a word whose two lowest bits are not both 1, and one whose major is none of those, is none; and no word of the machine's own is one.
  Conditions: none beyond the statement's own.
-/
import Derived.Test.YtdcihcmhmgeheaaRows
import Derived.Test.YtdcihcmhmgeheaaOpen
import Derived.Lib.Hide
import Derived.Test.YtdcihcmhmgeheaaDecS
namespace Go.Proofs.Ytdcihcmhmgeheaa.decodeNone
open Go Go.ChangeShapes Go.WideShapes Go.ChangeAt Go.RowKit F W M D
set_option linter.unusedVariables false

theorem and127 (x : Nat) (hx : x < 4294967296) : bits .and .u32 (x : Int) 127 = ((get x 0 7 : Nat) : Int) := by
  rw [show (127 : Int) = ((127 : Nat) : Int) from rfl, u32_and_nat x 127 hx (by omega), show (127 : Nat) = 2 ^ 7 - 1 from rfl, Nat.and_two_pow_sub_one_eq_mod, F.get, Nat.shiftRight_zero]
theorem and3 (x : Nat) (hx : x < 4294967296) : bits .and .u32 (x : Int) 3 = ((x % 4 : Nat) : Int) := by
  rw [show (3 : Int) = ((3 : Nat) : Int) from rfl, u32_and_nat x 3 hx (by omega), show (3 : Nat) = 2 ^ 2 - 1 from rfl, Nat.and_two_pow_sub_one_eq_mod]
theorem get07 (x : Nat) : get x 0 7 = x % 128 := by rw [F.get, Nat.shiftRight_zero]
/-- The majors that are known. -/
def Known (k : Nat) : Prop := k = 55 ∨ k = 23 ∨ k = 111 ∨ k = 103 ∨ k = 99 ∨ k = 3 ∨ k = 35 ∨ k = 19 ∨ k = 27 ∨ k = 51 ∨ k = 59 ∨ k = 15 ∨ k = 115 ∨ k = 47
theorem not_known (x : Nat) (h : ¬ Known (get x 0 7)) : D.wordV x = (0, 0, 0, 0, 0) := by
  unfold Known at h
  have : mean x = (0, bar) := by
    unfold mean
    rw [if_neg (by omega), if_neg (by omega), if_neg (by omega), if_neg (by omega), if_neg (by omega), if_neg (by omega), if_neg (by omega), if_neg (by omega), if_neg (by omega), if_neg (by omega), if_neg (by omega), if_neg (by omega), if_neg (by omega), if_neg (by omega)]
  rw [D.wordV, this]; rfl

set_option maxRecDepth 100000 in
set_option maxHeartbeats 4000000 in
theorem walk (w : World) (a0 : Int) (w0 : (Lit.int .u32 a0).wf = true) :
    Calls Try.prog 3 #[.int .u32 a0] w fun e w' => e = .returned (.bool true) ∧ Below w.heap.size w w' := by
  have h0 := bounds_u32 w0
  clear w0
  obtain ⟨x, rfl⟩ : ∃ x : Nat, a0 = x := ⟨a0.toNat, by omega⟩
  have hx : x < 4294967296 := by omega
  have eM := and127 x hx
  have eS := and3 x hx
  have hM := get07 x
  obtain ⟨o, rd, rs1, rs2, im, hW⟩ : ∃ o rd rs1 rs2 im, D.wordV x = (o, rd, rs1, rs2, im) := ⟨_, _, _, _, _, rfl⟩
  have HW := Lib.hid (fun W => Word_at hx hW W)
  have hf := fld0
  by_cases hk : Known (get x 0 7)
  · have h3 : x % 4 = 3 := by unfold Known at hk; omega
    rw [h3] at eS
    clear hW
    rcases hk with hk | hk | hk | hk | hk | hk | hk | hk | hk | hk | hk | hk | hk | hk
    all_goals
      rw [hk] at eM
      clear hM h3 hk
      go_enter Try.func3, Try.ntmps3
      go_wp2_with fail
      refine (shown04_c _).mono ?_
      rintro e w1 ⟨rfl, hG1⟩
      go_wp2_with fail
      refine (HW.out _).mono ?_
      rintro e w2 ⟨rfl, hG2⟩
      go_wp2_with fail
      refine (Word_at (x := 807403635) (by omega) word_mret _).mono ?_
      rintro e w3 ⟨rfl, hG3⟩
      have G3 := Lib.hid hG3
      clear hG3
      go_wp2_with fail
      refine (Word_at (x := 0) (by omega) word_zero _).mono ?_
      rintro e w4 ⟨rfl, hG4⟩
      go_wp2_with fail
      refine (Word_at (x := 4294967295) (by omega) word_ones _).mono ?_
      rintro e w5 ⟨rfl, hG5⟩
      go_wp2_with fail
      go_ret
      exact ⟨rfl, gr_below (gr_trans (gr_trans (gr_alloc (gr_trans (gr_alloc (gr_trans hG1 hG2) _) G3.out) _) hG4) hG5)⟩
  · have hn := not_known x hk
    rw [hW] at hn
    injection hn with e1 hn
    injection hn with e2 hn
    injection hn with e3 hn
    injection hn with e4 e5
    subst e1 e2 e3 e4 e5
    have hm : ∀ k : Nat, Known k → (((get x 0 7 : Nat) : Int) == (k : Int)) = false := fun k h => by
      simp only [beq_eq_false_iff_ne, ne_eq]; intro e; exact hk (by rw [show get x 0 7 = k by omega]; exact h)
    have d55 : (((get x 0 7 : Nat) : Int) == 55) = false := hm 55 (by unfold Known; omega)
    have d23 : (((get x 0 7 : Nat) : Int) == 23) = false := hm 23 (by unfold Known; omega)
    have d111 : (((get x 0 7 : Nat) : Int) == 111) = false := hm 111 (by unfold Known; omega)
    have d103 : (((get x 0 7 : Nat) : Int) == 103) = false := hm 103 (by unfold Known; omega)
    have d99 : (((get x 0 7 : Nat) : Int) == 99) = false := hm 99 (by unfold Known; omega)
    have d3 : (((get x 0 7 : Nat) : Int) == 3) = false := hm 3 (by unfold Known; omega)
    have d35 : (((get x 0 7 : Nat) : Int) == 35) = false := hm 35 (by unfold Known; omega)
    have d19 : (((get x 0 7 : Nat) : Int) == 19) = false := hm 19 (by unfold Known; omega)
    have d27 : (((get x 0 7 : Nat) : Int) == 27) = false := hm 27 (by unfold Known; omega)
    have d51 : (((get x 0 7 : Nat) : Int) == 51) = false := hm 51 (by unfold Known; omega)
    have d59 : (((get x 0 7 : Nat) : Int) == 59) = false := hm 59 (by unfold Known; omega)
    have d15 : (((get x 0 7 : Nat) : Int) == 15) = false := hm 15 (by unfold Known; omega)
    have d115 : (((get x 0 7 : Nat) : Int) == 115) = false := hm 115 (by unfold Known; omega)
    have d47 : (((get x 0 7 : Nat) : Int) == 47) = false := hm 47 (by unfold Known; omega)
    clear hm hW hk hM
    generalize ((get x 0 7 : Nat) : Int) = q at *
    by_cases h3 : x % 4 = 3
    · rw [h3] at eS
      clear h3
      go_enter Try.func3, Try.ntmps3
      go_wp2_with fail
      refine (shown04_c _).mono ?_
      rintro e w1 ⟨rfl, hG1⟩
      go_wp2_with fail
      refine (HW.out _).mono ?_
      rintro e w2 ⟨rfl, hG2⟩
      go_wp2_with fail
      refine (Word_at (x := 807403635) (by omega) word_mret _).mono ?_
      rintro e w3 ⟨rfl, hG3⟩
      have G3 := Lib.hid hG3
      clear hG3
      have hR := (Row.fresh w2 25 [.int .i64 0, .int .i64 0, .int .i64 0, .int .i64 0, .int .i64 0, .int .i64 4]).grown G3.out (by simp)
      have hlt := hR.lt
      have c0 := hR.cell 0
      have c1 := hR.cell 1
      have c4 := hR.cell 4
      simp only [List.getElem?_cons_zero, List.getElem?_cons_succ] at c0 c1 c4
      go_wp2_with fail
      refine (Word_at (x := 0) (by omega) word_zero _).mono ?_
      rintro e w4 ⟨rfl, hG4⟩
      go_wp2_with fail
      refine (Word_at (x := 4294967295) (by omega) word_ones _).mono ?_
      rintro e w5 ⟨rfl, hG5⟩
      go_wp2_with fail
      go_ret
      exact ⟨rfl, gr_below (gr_trans (gr_trans (gr_alloc (gr_trans (gr_alloc (gr_trans hG1 hG2) _) G3.out) _) hG4) hG5)⟩
    · have d3 : (((x % 4 : Nat) : Int) != 3) = true := by simp; omega
      clear h3
      generalize ((x % 4 : Nat) : Int) = r at *
      go_enter Try.func3, Try.ntmps3
      go_wp2_with fail
      refine (shown04_c _).mono ?_
      rintro e w1 ⟨rfl, hG1⟩
      go_wp2_with fail
      refine (HW.out _).mono ?_
      rintro e w2 ⟨rfl, hG2⟩
      go_wp2_with fail
      refine (Word_at (x := 807403635) (by omega) word_mret _).mono ?_
      rintro e w3 ⟨rfl, hG3⟩
      have G3 := Lib.hid hG3
      clear hG3
      have hR := (Row.fresh w2 25 [.int .i64 0, .int .i64 0, .int .i64 0, .int .i64 0, .int .i64 0, .int .i64 4]).grown G3.out (by simp)
      have hlt := hR.lt
      have c0 := hR.cell 0
      have c1 := hR.cell 1
      have c4 := hR.cell 4
      simp only [List.getElem?_cons_zero, List.getElem?_cons_succ] at c0 c1 c4
      go_wp2_with fail
      refine (Word_at (x := 0) (by omega) word_zero _).mono ?_
      rintro e w4 ⟨rfl, hG4⟩
      go_wp2_with fail
      refine (Word_at (x := 4294967295) (by omega) word_ones _).mono ?_
      rintro e w5 ⟨rfl, hG5⟩
      go_wp2_with fail
      go_ret
      exact ⟨rfl, gr_below (gr_trans (gr_trans (gr_alloc (gr_trans (gr_alloc (gr_trans hG1 hG2) _) G3.out) _) hG4) hG5)⟩

theorem own : ownKnob Try.prog.godebug = none := by kernel_rfl
theorem laidOut : laidOutB Try.prog = true := by kernel_rfl

set_option maxRecDepth 100000 in
theorem lifted (os : Os) (started : os.Started) (H : Type) (enc : TypeId × Value → H) :
    ReturnsInHanded {} Try.checked os 3 .any (Rows.decodeNoneSpec.pre6 enc Try.prog Try.f3 Rows.decodeNoneRow.domain false) (Rows.decodeNoneSpec.post enc Try.prog Try.f3 false true false false) := by
  refine returnsInHanded_of_change (C := Try.checked) own started (by kernel_rfl) Try.func3
    (ChangeSpec.witness6 (enc := enc) (C := Try.checked) false ⟨#[], #[.int .u32 0], []⟩ 8 (by kernel_rfl) (by kernel_rfl) (by kernel_rfl) (by kernel_rfl)) ?_
  intro W base args ds gs before hval0 hW hcnd _
  have hval : ∀ (j : Nat) t v, Try.f3.params[j]? = some t → args[j]? = some v → Value.okWide Try.prog W .any base t v := hval0
  have hW' := hW
  obtain ⟨p, q, hA0, hV, rfl, hfz, hnd⟩ := hW
  have hA : DataW.TrodAll enc Try.prog W 0 (fun _ => true) true Try.f3.params.toList args.toList ds p := hA0
  rw [Try.params3] at hA hval
  obtain ⟨v0, vs0, d0, ds0, p0, q0, hargs, rfl, rfl, h0, r0⟩ := trodAll_cons hA
  obtain ⟨rfl, rfl, rfl⟩ := trodAll_nil r0
  obtain rfl : args = #[v0] := by cases args; simp_all
  obtain ⟨rfl, rfl⟩ := trodVars_none hV
  clear hA0 hval0 hA
  have k0 := h0
  have lt0 : ∀ x ∈ p0, x.block < W.heap.size := by obtain ⟨m, hm⟩ := k0; exact DataW.trod_lt m _ _ _ hm
  obtain ⟨a0, rfl, rfl, rfl, w0⟩ := open_int Try.underlying22 (hval 0 22 v0 rfl rfl) h0
  refine (walk W a0 w0).mono fun e W' ⟨he, bel⟩ => ?_
  subst he
  exact ⟨_, rfl, _, _, _, [], _, [], hW', trodAll_mk1 (shut_bool Try.underlying4 _), (trodAll_cons_mk (Below.trod laidOut (by kernel_rfl) (of_decide_eq_true (by kernel_rfl)) k0 bel lt0) trodAll_mk0), rfl, bel.frame _, fun h => by cases h⟩

theorem over : Rows.decodeNoneRow.holds Try.pinned (OpenSpec.ofChange Rows.decodeNoneSpec) :=
  OpenClaim.holds_of_wide 3 Try.f3 rfl rfl rfl rfl rfl rfl rfl ⟨rfl, rfl, rfl, rfl, rfl⟩ rfl rfl rfl rfl rfl (by kernel_rfl) Try.func3 (by kernel_rfl)
    (of_decide_eq_true (by kernel_rfl)) (by unfold Func.isWrapper; first | (rw [if_pos (by decide +kernel)]; kernel_rfl) | (rw [if_neg (by decide +kernel)]; exact ⟨rfl, rfl⟩))
    (fun os started H enc _ => lifted os started H enc)

/-- The statement. -/
theorem proved : Rows.DecodeNoneSaid := over
#print axioms proved

end Go.Proofs.Ytdcihcmhmgeheaa.decodeNone
