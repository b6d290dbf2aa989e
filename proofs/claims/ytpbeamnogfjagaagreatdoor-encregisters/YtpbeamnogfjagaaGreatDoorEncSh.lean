/-
  The document's example, as the head of layer 6's statements has it: it answers true; and what the laws of this layer take of Word and of the document's own Word.
  Conditions: the tables hold what the program's text lays.
-/
import Derived.Test.YtpbeamnogfjagaaGreatDoorEncTx
import Derived.Test.YtpbeamnogfjagaaGreatDoorEncE
import Derived.Test.YtpbeamnogfjagaaGreatDoorDecWR
namespace Go.Proofs.YtpbeamnogfjagaaGreatDoor.E
open Go Go.RowKit F W M D refWord
set_option linter.unusedVariables false
set_option maxRecDepth 100000

theorem gr_of_below {w w' : World} (h : Below w.heap.size w w') : w.grownBy w' none := ⟨h.os, h.tape, h.output, h.size, fun k hk _ => h.block k hk⟩
theorem txt_toList (l : Bytes) : (txt l).toList = l := Go.ByteArray.toList_mk l
theorem ok_sample : okE 22 10 10 0 10 4 = true := by decide +kernel
theorem lay_sample : layI 22 10 10 0 10 = 10814739 := by decide +kernel
theorem text_sample : textV 22 10 10 0 10 = [97, 100, 100, 105, 32, 120, 49, 48, 32, 120, 49, 48, 32, 49, 48] := by decide +kernel
set_option maxHeartbeats 1000000 in
theorem shown06_c (w : World) (hT : Tabs w) : Calls Tryz.prog 8 #[] w fun e w' => e = .returned (.bool true) ∧ w.grownBy w' none := by
  have HW := Lib.hid (fun W h => Word_yes 22 10 10 0 10 4 (by decide) (by decide) (by decide) (by decide) (by decide) ok_sample W h)
  rw [lay_sample] at HW
  have HX := Lib.hid (fun W h => Text_c 22 10 10 0 10 0 (by decide) (by decide) (by decide) (by decide) (by decide) W h)
  rw [text_sample] at HX
  have ht := txt_toList [97, 100, 100, 105, 32, 120, 49, 48, 32, 120, 49, 48, 32, 49, 48]
  go_enter Tryz.func8, Tryz.ntmps8
  go_wp2_with fail
  refine (HW.out _ hT.1).mono ?_
  rintro e w1 ⟨rfl, hG1⟩
  go_wp2_with fail
  refine (HX.out _ (hT.grown hG1)).mono ?_
  rintro e w2 ⟨rfl, hB2⟩
  go_wp2_with fail
  go_ret
  exact ⟨rfl, gr_trans hG1 (gr_of_below hB2)⟩
theorem rWord_at {x : Nat} {o rd rs1 rs2 im : Int} (hx : x < 4294967296) (h : D.wordV x = (o, rd, rs1, rs2, im)) (w : World) :
    Calls Tryz.prog 15 #[.int .u32 x] w fun e w' => e = .returned (.agg #[.int .i64 o, .int .i64 rd, .int .i64 rs1, .int .i64 rs2, .int .i64 im, .int .i64 4]) ∧ w.grownBy w' none := by
  have := rWord_c x hx w
  rw [h] at this
  exact this
/-- Where there is a word, it is that instruction. -/
theorem ok_word {o rd rs1 rs2 im n : Int} (h : okE o rd rs1 rs2 im n = true) : n = 4 ∧ wordE o rd rs1 rs2 im n < 4294967296 ∧ D.wordV (wordE o rd rs1 rs2 im n) = (o, rd, rs1, rs2, im) ∧ D.Can o (rd, rs1, rs2, im) := by
  have hc := (okE_iff o rd rs1 rs2 im n).1 h
  rw [wordE, if_pos h]
  refine ⟨hc.2, layI_lt _ _ _ _ _, ?_, hc.1⟩
  unfold okE at h
  exact (of_decide_eq_true h).1
theorem can_i64 {o : Int} {rd rs1 rs2 im : Int} (h : D.Can o (rd, rs1, rs2, im)) : I64 o ∧ I64 rd ∧ I64 rs1 ∧ I64 rs2 ∧ I64 im := by
  obtain ⟨h0, h1, h2, h3, hl⟩ := h
  simp only at h1 h2 h3 hl
  have him : I64 im := by
    rcases (show (o ≤ 0) ∨ (1 ≤ o ∧ o ≤ 2) ∨ (3 ≤ o ∧ o ≤ 3) ∨ (4 ≤ o ∧ o ≤ 4) ∨ (5 ≤ o ∧ o ≤ 10) ∨ (11 ≤ o ∧ o ≤ 17) ∨ (18 ≤ o ∧ o ≤ 21) ∨ (22 ≤ o ∧ o ≤ 27) ∨ (28 ≤ o ∧ o ≤ 30) ∨ (31 ≤ o ∧ o ≤ 40) ∨ (41 ≤ o ∧ o ≤ 41) ∨ (42 ≤ o ∧ o ≤ 44) ∨ (45 ≤ o ∧ o ≤ 62) ∨ (63 ≤ o ∧ o ≤ 68) ∨ (69 ≤ o ∧ o ≤ 69) ∨ (70 ≤ o ∧ o ≤ 75) ∨ (76 ≤ o ∧ o ≤ 76) ∨ (77 ≤ o ∧ o ≤ 86) ∨ (87 ≤ o ∧ o ≤ 87) ∨ (88 ≤ o) by omega) with k | k | k | k | k | k | k | k | k | k | k | k | k | k | k | k | k | k | k | k
    · rw [lim0 _ _ _ _ _ k] at hl; exact ⟨by omega, by omega⟩
    · rw [lim1 _ _ _ _ _ k] at hl; exact ⟨by omega, by omega⟩
    · rw [lim2 _ _ _ _ _ k] at hl; exact ⟨by omega, by omega⟩
    · rw [lim3 _ _ _ _ _ k] at hl; exact ⟨by omega, by omega⟩
    · rw [lim4 _ _ _ _ _ k] at hl; exact ⟨by omega, by omega⟩
    · rw [lim5 _ _ _ _ _ k] at hl; exact ⟨by omega, by omega⟩
    · rw [lim6 _ _ _ _ _ k] at hl; exact ⟨by omega, by omega⟩
    · rw [lim7 _ _ _ _ _ k] at hl; exact ⟨by omega, by omega⟩
    · rw [lim8 _ _ _ _ _ k] at hl; exact ⟨by omega, by omega⟩
    · rw [lim9 _ _ _ _ _ k] at hl; exact ⟨by omega, by omega⟩
    · rw [lim10 _ _ _ _ _ k] at hl; exact ⟨by omega, by omega⟩
    · rw [lim11 _ _ _ _ _ k] at hl; exact ⟨by omega, by omega⟩
    · rw [lim12 _ _ _ _ _ k] at hl; exact ⟨by omega, by omega⟩
    · rw [lim13 _ _ _ _ _ k] at hl; exact ⟨by omega, by omega⟩
    · rw [lim14 _ _ _ _ _ k] at hl; exact ⟨by omega, by omega⟩
    · rw [lim15 _ _ _ _ _ k] at hl; exact ⟨by omega, by omega⟩
    · rw [lim16 _ _ _ _ _ k] at hl; exact ⟨by omega, by omega⟩
    · rw [lim17 _ _ _ _ _ k] at hl; exact ⟨by omega, by omega⟩
    · rw [lim18 _ _ _ _ _ k] at hl; exact ⟨by omega, by omega⟩
    · rw [lim19 _ _ _ _ _ k] at hl; exact ⟨by omega, by omega⟩
  exact ⟨⟨by omega, by omega⟩, ⟨by omega, by omega⟩, ⟨by omega, by omega⟩, ⟨by omega, by omega⟩, him⟩
end Go.Proofs.YtpbeamnogfjagaaGreatDoor.E
