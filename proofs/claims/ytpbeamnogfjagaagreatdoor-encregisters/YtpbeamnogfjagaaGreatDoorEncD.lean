/-
  What package enc's Word is: contracts over the program's translation.
  Conditions: the arguments are numbers of their kinds; the table of package decode's kinds holds what the program's text lays.
-/
import Derived.Test.YtpbeamnogfjagaaGreatDoorEncC
namespace Go.Proofs.YtpbeamnogfjagaaGreatDoor.E
open Go Go.RowKit Go.Maps F W M D
set_option linter.unusedVariables false
set_option maxRecDepth 100000

/-- The format of an op's number. -/
def fmtV (o : Int) : Int :=
  if o ≤ 0 then 0 else if o ≤ 2 then 4 else if o ≤ 3 then 5 else if o ≤ 4 then 1 else if o ≤ 10 then 3 else if o ≤ 17 then 1 else if o ≤ 21 then 2 else if o ≤ 30 then 1 else if o ≤ 40 then 0 else if o ≤ 44 then 1 else 0
theorem fmt0 {o : Int} (h : o ≤ 0) : fmtV o = 0 := by
  unfold fmtV; rw [if_pos (by omega)]
theorem fmt1 {o : Int} (h : 1 ≤ o ∧ o ≤ 2) : fmtV o = 4 := by
  unfold fmtV; rw [if_neg (by omega), if_pos (by omega)]
theorem fmt2 {o : Int} (h : 3 ≤ o ∧ o ≤ 3) : fmtV o = 5 := by
  unfold fmtV; rw [if_neg (by omega), if_neg (by omega), if_pos (by omega)]
theorem fmt3 {o : Int} (h : 4 ≤ o ∧ o ≤ 4) : fmtV o = 1 := by
  unfold fmtV; rw [if_neg (by omega), if_neg (by omega), if_neg (by omega), if_pos (by omega)]
theorem fmt4 {o : Int} (h : 5 ≤ o ∧ o ≤ 10) : fmtV o = 3 := by
  unfold fmtV; rw [if_neg (by omega), if_neg (by omega), if_neg (by omega), if_neg (by omega), if_pos (by omega)]
theorem fmt5 {o : Int} (h : 11 ≤ o ∧ o ≤ 17) : fmtV o = 1 := by
  unfold fmtV; rw [if_neg (by omega), if_neg (by omega), if_neg (by omega), if_neg (by omega), if_neg (by omega), if_pos (by omega)]
theorem fmt6 {o : Int} (h : 18 ≤ o ∧ o ≤ 21) : fmtV o = 2 := by
  unfold fmtV; rw [if_neg (by omega), if_neg (by omega), if_neg (by omega), if_neg (by omega), if_neg (by omega), if_neg (by omega), if_pos (by omega)]
theorem fmt7 {o : Int} (h : 22 ≤ o ∧ o ≤ 30) : fmtV o = 1 := by
  unfold fmtV; rw [if_neg (by omega), if_neg (by omega), if_neg (by omega), if_neg (by omega), if_neg (by omega), if_neg (by omega), if_neg (by omega), if_pos (by omega)]
theorem fmt8 {o : Int} (h : 31 ≤ o ∧ o ≤ 40) : fmtV o = 0 := by
  unfold fmtV; rw [if_neg (by omega), if_neg (by omega), if_neg (by omega), if_neg (by omega), if_neg (by omega), if_neg (by omega), if_neg (by omega), if_neg (by omega), if_pos (by omega)]
theorem fmt9 {o : Int} (h : 41 ≤ o ∧ o ≤ 44) : fmtV o = 1 := by
  unfold fmtV; rw [if_neg (by omega), if_neg (by omega), if_neg (by omega), if_neg (by omega), if_neg (by omega), if_neg (by omega), if_neg (by omega), if_neg (by omega), if_neg (by omega), if_pos (by omega)]
theorem fmt10 {o : Int} (h : 45 ≤ o) : fmtV o = 0 := by
  unfold fmtV; rw [if_neg (by omega), if_neg (by omega), if_neg (by omega), if_neg (by omega), if_neg (by omega), if_neg (by omega), if_neg (by omega), if_neg (by omega), if_neg (by omega), if_neg (by omega)]
theorem fmt_in (o : Int) : 0 ≤ fmtV o ∧ fmtV o ≤ 5 := by
  unfold fmtV
  repeat' (first | omega | split)

theorem format0 (o : Int) (ho : I64 o) (h : o ≤ 0) (w : World) (hT : Tbl w) :
    Calls Tryz.prog 75 #[.int .i64 o] w fun e w' => e = .returned (.int .i64 (fmtV o)) ∧ w = w' := by
  rw [fmt0 (by omega)]
  have HK := Lib.hid (show kindV o = 0 from kind0 h)
  have n1 : decide (o = 1) = false := by simp; omega
  have n2 : decide (o = 2) = false := by simp; omega
  have n3 : decide (o = 3) = false := by simp; omega
  go_enter Tryz.func75, Tryz.ntmps75
  go_wp2_with fail
  refine (Kind_c o ho _ hT).mono ?_
  rintro e w' ⟨rfl, rfl⟩
  rw [HK.out]
  go_wp2_with fail
  go_ret
  exact ⟨rfl, rfl⟩
theorem format1 (o : Int) (ho : I64 o) (h : 1 ≤ o ∧ o ≤ 2) (w : World) (hT : Tbl w) :
    Calls Tryz.prog 75 #[.int .i64 o] w fun e w' => e = .returned (.int .i64 (fmtV o)) ∧ w = w' := by
  rw [fmt1 (by omega)]
  rcases (show o = 1 ∨ o = 2 by omega) with rfl | rfl
  all_goals (go_enter Tryz.func75, Tryz.ntmps75; go_wp2_with fail; go_ret; exact ⟨rfl, rfl⟩)
theorem format2 (o : Int) (ho : I64 o) (h : 3 ≤ o ∧ o ≤ 3) (w : World) (hT : Tbl w) :
    Calls Tryz.prog 75 #[.int .i64 o] w fun e w' => e = .returned (.int .i64 (fmtV o)) ∧ w = w' := by
  rw [fmt2 (by omega)]
  obtain rfl : o = 3 := by omega
  go_enter Tryz.func75, Tryz.ntmps75
  go_wp2_with fail
  go_ret
  exact ⟨rfl, rfl⟩
theorem format3 (o : Int) (ho : I64 o) (h : 4 ≤ o ∧ o ≤ 4) (w : World) (hT : Tbl w) :
    Calls Tryz.prog 75 #[.int .i64 o] w fun e w' => e = .returned (.int .i64 (fmtV o)) ∧ w = w' := by
  rw [fmt3 (by omega)]
  have HK := Lib.hid (show kindV o = 1 from kind1 (by omega))
  have n1 : decide (o = 1) = false := by simp; omega
  have n2 : decide (o = 2) = false := by simp; omega
  have n3 : decide (o = 3) = false := by simp; omega
  go_enter Tryz.func75, Tryz.ntmps75
  go_wp2_with fail
  refine (Kind_c o ho _ hT).mono ?_
  rintro e w' ⟨rfl, rfl⟩
  rw [HK.out]
  go_wp2_with fail
  go_ret
  exact ⟨rfl, rfl⟩
theorem format4 (o : Int) (ho : I64 o) (h : 5 ≤ o ∧ o ≤ 10) (w : World) (hT : Tbl w) :
    Calls Tryz.prog 75 #[.int .i64 o] w fun e w' => e = .returned (.int .i64 (fmtV o)) ∧ w = w' := by
  rw [fmt4 (by omega)]
  have HK := Lib.hid (show kindV o = 2 from kind2 (by omega))
  have n1 : decide (o = 1) = false := by simp; omega
  have n2 : decide (o = 2) = false := by simp; omega
  have n3 : decide (o = 3) = false := by simp; omega
  go_enter Tryz.func75, Tryz.ntmps75
  go_wp2_with fail
  refine (Kind_c o ho _ hT).mono ?_
  rintro e w' ⟨rfl, rfl⟩
  rw [HK.out]
  go_wp2_with fail
  go_ret
  exact ⟨rfl, rfl⟩
theorem format5 (o : Int) (ho : I64 o) (h : 11 ≤ o ∧ o ≤ 17) (w : World) (hT : Tbl w) :
    Calls Tryz.prog 75 #[.int .i64 o] w fun e w' => e = .returned (.int .i64 (fmtV o)) ∧ w = w' := by
  rw [fmt5 (by omega)]
  have HK := Lib.hid (show kindV o = 3 from kind3 (by omega))
  have n1 : decide (o = 1) = false := by simp; omega
  have n2 : decide (o = 2) = false := by simp; omega
  have n3 : decide (o = 3) = false := by simp; omega
  go_enter Tryz.func75, Tryz.ntmps75
  go_wp2_with fail
  refine (Kind_c o ho _ hT).mono ?_
  rintro e w' ⟨rfl, rfl⟩
  rw [HK.out]
  go_wp2_with fail
  go_ret
  exact ⟨rfl, rfl⟩
theorem format6 (o : Int) (ho : I64 o) (h : 18 ≤ o ∧ o ≤ 21) (w : World) (hT : Tbl w) :
    Calls Tryz.prog 75 #[.int .i64 o] w fun e w' => e = .returned (.int .i64 (fmtV o)) ∧ w = w' := by
  rw [fmt6 (by omega)]
  have HK := Lib.hid (show kindV o = 4 from kind4 (by omega))
  have n1 : decide (o = 1) = false := by simp; omega
  have n2 : decide (o = 2) = false := by simp; omega
  have n3 : decide (o = 3) = false := by simp; omega
  go_enter Tryz.func75, Tryz.ntmps75
  go_wp2_with fail
  refine (Kind_c o ho _ hT).mono ?_
  rintro e w' ⟨rfl, rfl⟩
  rw [HK.out]
  go_wp2_with fail
  go_ret
  exact ⟨rfl, rfl⟩
theorem format7 (o : Int) (ho : I64 o) (h : 22 ≤ o ∧ o ≤ 30) (w : World) (hT : Tbl w) :
    Calls Tryz.prog 75 #[.int .i64 o] w fun e w' => e = .returned (.int .i64 (fmtV o)) ∧ w = w' := by
  rw [fmt7 (by omega)]
  have HK := Lib.hid (show kindV o = 5 from kind5 (by omega))
  have n1 : decide (o = 1) = false := by simp; omega
  have n2 : decide (o = 2) = false := by simp; omega
  have n3 : decide (o = 3) = false := by simp; omega
  go_enter Tryz.func75, Tryz.ntmps75
  go_wp2_with fail
  refine (Kind_c o ho _ hT).mono ?_
  rintro e w' ⟨rfl, rfl⟩
  rw [HK.out]
  go_wp2_with fail
  go_ret
  exact ⟨rfl, rfl⟩
theorem format8 (o : Int) (ho : I64 o) (h : 31 ≤ o ∧ o ≤ 40) (w : World) (hT : Tbl w) :
    Calls Tryz.prog 75 #[.int .i64 o] w fun e w' => e = .returned (.int .i64 (fmtV o)) ∧ w = w' := by
  rw [fmt8 (by omega)]
  have HK := Lib.hid (show kindV o = 6 from kind6 (by omega))
  have n1 : decide (o = 1) = false := by simp; omega
  have n2 : decide (o = 2) = false := by simp; omega
  have n3 : decide (o = 3) = false := by simp; omega
  go_enter Tryz.func75, Tryz.ntmps75
  go_wp2_with fail
  refine (Kind_c o ho _ hT).mono ?_
  rintro e w' ⟨rfl, rfl⟩
  rw [HK.out]
  go_wp2_with fail
  go_ret
  exact ⟨rfl, rfl⟩
theorem format9 (o : Int) (ho : I64 o) (h : 41 ≤ o ∧ o ≤ 44) (w : World) (hT : Tbl w) :
    Calls Tryz.prog 75 #[.int .i64 o] w fun e w' => e = .returned (.int .i64 (fmtV o)) ∧ w = w' := by
  rw [fmt9 (by omega)]
  have HK := Lib.hid (show kindV o = 7 from kind7 (by omega))
  have n1 : decide (o = 1) = false := by simp; omega
  have n2 : decide (o = 2) = false := by simp; omega
  have n3 : decide (o = 3) = false := by simp; omega
  go_enter Tryz.func75, Tryz.ntmps75
  go_wp2_with fail
  refine (Kind_c o ho _ hT).mono ?_
  rintro e w' ⟨rfl, rfl⟩
  rw [HK.out]
  go_wp2_with fail
  go_ret
  exact ⟨rfl, rfl⟩
theorem format10 (o : Int) (ho : I64 o) (h : 45 ≤ o ∧ o ≤ 49) (w : World) (hT : Tbl w) :
    Calls Tryz.prog 75 #[.int .i64 o] w fun e w' => e = .returned (.int .i64 (fmtV o)) ∧ w = w' := by
  rw [fmt10 (by omega)]
  have HK := Lib.hid (show kindV o = 8 from kind8 (by omega))
  have n1 : decide (o = 1) = false := by simp; omega
  have n2 : decide (o = 2) = false := by simp; omega
  have n3 : decide (o = 3) = false := by simp; omega
  go_enter Tryz.func75, Tryz.ntmps75
  go_wp2_with fail
  refine (Kind_c o ho _ hT).mono ?_
  rintro e w' ⟨rfl, rfl⟩
  rw [HK.out]
  go_wp2_with fail
  go_ret
  exact ⟨rfl, rfl⟩
theorem format11 (o : Int) (ho : I64 o) (h : 50 ≤ o ∧ o ≤ 57) (w : World) (hT : Tbl w) :
    Calls Tryz.prog 75 #[.int .i64 o] w fun e w' => e = .returned (.int .i64 (fmtV o)) ∧ w = w' := by
  rw [fmt10 (by omega)]
  have HK := Lib.hid (show kindV o = 9 from kind9 (by omega))
  have n1 : decide (o = 1) = false := by simp; omega
  have n2 : decide (o = 2) = false := by simp; omega
  have n3 : decide (o = 3) = false := by simp; omega
  go_enter Tryz.func75, Tryz.ntmps75
  go_wp2_with fail
  refine (Kind_c o ho _ hT).mono ?_
  rintro e w' ⟨rfl, rfl⟩
  rw [HK.out]
  go_wp2_with fail
  go_ret
  exact ⟨rfl, rfl⟩
theorem format12 (o : Int) (ho : I64 o) (h : 58 ≤ o ∧ o ≤ 62) (w : World) (hT : Tbl w) :
    Calls Tryz.prog 75 #[.int .i64 o] w fun e w' => e = .returned (.int .i64 (fmtV o)) ∧ w = w' := by
  rw [fmt10 (by omega)]
  have HK := Lib.hid (show kindV o = 10 from kind10 (by omega))
  have n1 : decide (o = 1) = false := by simp; omega
  have n2 : decide (o = 2) = false := by simp; omega
  have n3 : decide (o = 3) = false := by simp; omega
  go_enter Tryz.func75, Tryz.ntmps75
  go_wp2_with fail
  refine (Kind_c o ho _ hT).mono ?_
  rintro e w' ⟨rfl, rfl⟩
  rw [HK.out]
  go_wp2_with fail
  go_ret
  exact ⟨rfl, rfl⟩
theorem format13 (o : Int) (ho : I64 o) (h : 63 ≤ o ∧ o ≤ 69) (w : World) (hT : Tbl w) :
    Calls Tryz.prog 75 #[.int .i64 o] w fun e w' => e = .returned (.int .i64 (fmtV o)) ∧ w = w' := by
  rw [fmt10 (by omega)]
  have HK := Lib.hid (show kindV o = 11 from kind11 (by omega))
  have n1 : decide (o = 1) = false := by simp; omega
  have n2 : decide (o = 2) = false := by simp; omega
  have n3 : decide (o = 3) = false := by simp; omega
  go_enter Tryz.func75, Tryz.ntmps75
  go_wp2_with fail
  refine (Kind_c o ho _ hT).mono ?_
  rintro e w' ⟨rfl, rfl⟩
  rw [HK.out]
  go_wp2_with fail
  go_ret
  exact ⟨rfl, rfl⟩
theorem format14 (o : Int) (ho : I64 o) (h : 70 ≤ o ∧ o ≤ 75) (w : World) (hT : Tbl w) :
    Calls Tryz.prog 75 #[.int .i64 o] w fun e w' => e = .returned (.int .i64 (fmtV o)) ∧ w = w' := by
  rw [fmt10 (by omega)]
  have HK := Lib.hid (show kindV o = 12 from kind12 (by omega))
  have n1 : decide (o = 1) = false := by simp; omega
  have n2 : decide (o = 2) = false := by simp; omega
  have n3 : decide (o = 3) = false := by simp; omega
  go_enter Tryz.func75, Tryz.ntmps75
  go_wp2_with fail
  refine (Kind_c o ho _ hT).mono ?_
  rintro e w' ⟨rfl, rfl⟩
  rw [HK.out]
  go_wp2_with fail
  go_ret
  exact ⟨rfl, rfl⟩
theorem format15 (o : Int) (ho : I64 o) (h : 76 ≤ o ∧ o ≤ 86) (w : World) (hT : Tbl w) :
    Calls Tryz.prog 75 #[.int .i64 o] w fun e w' => e = .returned (.int .i64 (fmtV o)) ∧ w = w' := by
  rw [fmt10 (by omega)]
  have HK := Lib.hid (show kindV o = 13 from kind13 (by omega))
  have n1 : decide (o = 1) = false := by simp; omega
  have n2 : decide (o = 2) = false := by simp; omega
  have n3 : decide (o = 3) = false := by simp; omega
  go_enter Tryz.func75, Tryz.ntmps75
  go_wp2_with fail
  refine (Kind_c o ho _ hT).mono ?_
  rintro e w' ⟨rfl, rfl⟩
  rw [HK.out]
  go_wp2_with fail
  go_ret
  exact ⟨rfl, rfl⟩
theorem format16 (o : Int) (ho : I64 o) (h : 87 ≤ o ∧ o ≤ 97) (w : World) (hT : Tbl w) :
    Calls Tryz.prog 75 #[.int .i64 o] w fun e w' => e = .returned (.int .i64 (fmtV o)) ∧ w = w' := by
  rw [fmt10 (by omega)]
  have HK := Lib.hid (show kindV o = 14 from kind14 (by omega))
  have n1 : decide (o = 1) = false := by simp; omega
  have n2 : decide (o = 2) = false := by simp; omega
  have n3 : decide (o = 3) = false := by simp; omega
  go_enter Tryz.func75, Tryz.ntmps75
  go_wp2_with fail
  refine (Kind_c o ho _ hT).mono ?_
  rintro e w' ⟨rfl, rfl⟩
  rw [HK.out]
  go_wp2_with fail
  go_ret
  exact ⟨rfl, rfl⟩
theorem format17 (o : Int) (ho : I64 o) (h : 97 < o) (w : World) (hT : Tbl w) :
    Calls Tryz.prog 75 #[.int .i64 o] w fun e w' => e = .returned (.int .i64 (fmtV o)) ∧ w = w' := by
  rw [fmt10 (by omega)]
  have HK := Lib.hid (show kindV o = 0 from kind_none o h)
  have n1 : decide (o = 1) = false := by simp; omega
  have n2 : decide (o = 2) = false := by simp; omega
  have n3 : decide (o = 3) = false := by simp; omega
  go_enter Tryz.func75, Tryz.ntmps75
  go_wp2_with fail
  refine (Kind_c o ho _ hT).mono ?_
  rintro e w' ⟨rfl, rfl⟩
  rw [HK.out]
  go_wp2_with fail
  go_ret
  exact ⟨rfl, rfl⟩
theorem format_c (o : Int) (ho : I64 o) (w : World) (hT : Tbl w) :
    Calls Tryz.prog 75 #[.int .i64 o] w fun e w' => e = .returned (.int .i64 (fmtV o)) ∧ w = w' := by
  rcases (show (o ≤ 0) ∨ (1 ≤ o ∧ o ≤ 2) ∨ (3 ≤ o ∧ o ≤ 3) ∨ (4 ≤ o ∧ o ≤ 4) ∨ (5 ≤ o ∧ o ≤ 10) ∨ (11 ≤ o ∧ o ≤ 17) ∨ (18 ≤ o ∧ o ≤ 21) ∨ (22 ≤ o ∧ o ≤ 30) ∨ (31 ≤ o ∧ o ≤ 40) ∨ (41 ≤ o ∧ o ≤ 44) ∨ (45 ≤ o ∧ o ≤ 49) ∨ (50 ≤ o ∧ o ≤ 57) ∨ (58 ≤ o ∧ o ≤ 62) ∨ (63 ≤ o ∧ o ≤ 69) ∨ (70 ≤ o ∧ o ≤ 75) ∨ (76 ≤ o ∧ o ≤ 86) ∨ (87 ≤ o ∧ o ≤ 97) ∨ (97 < o) by omega) with h | h | h | h | h | h | h | h | h | h | h | h | h | h | h | h | h | h
  · exact format0 o ho h w hT
  · exact format1 o ho h w hT
  · exact format2 o ho h w hT
  · exact format3 o ho h w hT
  · exact format4 o ho h w hT
  · exact format5 o ho h w hT
  · exact format6 o ho h w hT
  · exact format7 o ho h w hT
  · exact format8 o ho h w hT
  · exact format9 o ho h w hT
  · exact format10 o ho h w hT
  · exact format11 o ho h w hT
  · exact format12 o ho h w hT
  · exact format13 o ho h w hT
  · exact format14 o ho h w hT
  · exact format15 o ho h w hT
  · exact format16 o ho h w hT
  · exact format17 o ho h w hT

/-- An instruction stands in block b, and the table of kinds where it stood. -/
def Held (w0 : World) (b : Nat) (o rd rs1 rs2 im n : Int) (w : World) : Prop :=
  w.cell? ⟨b, 0, none⟩ = some (.int .i64 o) ∧ w.cell? ⟨b, 1, none⟩ = some (.int .i64 rd) ∧ w.cell? ⟨b, 2, none⟩ = some (.int .i64 rs1) ∧ w.cell? ⟨b, 3, none⟩ = some (.int .i64 rs2) ∧ w.cell? ⟨b, 4, none⟩ = some (.int .i64 im) ∧ w.cell? ⟨b, 5, none⟩ = some (.int .i64 n) ∧
  Row w b 23 [.int .i64 o, .int .i64 rd, .int .i64 rs1, .int .i64 rs2, .int .i64 im, .int .i64 n] ∧ Tbl w ∧ w0.grownBy w none
theorem held_of {w0 w : World} {b : Nat} {o rd rs1 rs2 im n : Int} (h : Row w b 23 [.int .i64 o, .int .i64 rd, .int .i64 rs1, .int .i64 rs2, .int .i64 im, .int .i64 n]) (hT : Tbl w) (hb : w0.grownBy w none) : Held w0 b o rd rs1 rs2 im n w :=
  ⟨h.cell 0, h.cell 1, h.cell 2, h.cell 3, h.cell 4, h.cell 5, h, hT, hb⟩
theorem Held.on {w0 w w' : World} {b : Nat} {o rd rs1 rs2 im n : Int} (hg : w.grownBy w' none) (h : Held w0 b o rd rs1 rs2 im n w) : Held w0 b o rd rs1 rs2 im n w' :=
  held_of (h.2.2.2.2.2.2.1.grown hg (by simp)) (h.2.2.2.2.2.2.2.1.grown hg) (gr_trans h.2.2.2.2.2.2.2.2 hg)
theorem Held.tbl {w0 w : World} {b : Nat} {o rd rs1 rs2 im n : Int} (h : Held w0 b o rd rs1 rs2 im n w) : Tbl w := h.2.2.2.2.2.2.2.1
theorem Held.gr {w0 w : World} {b : Nat} {o rd rs1 rs2 im n : Int} (h : Held w0 b o rd rs1 rs2 im n w) : w0.grownBy w none := h.2.2.2.2.2.2.2.2
theorem held_new (w : World) (hT : Tbl w) (o rd rs1 rs2 im n : Int) : Held w w.heap.size o rd rs1 rs2 im n (w.alloc (.cells #[.int .i64 o, .int .i64 rd, .int .i64 rs1, .int .i64 rs2, .int .i64 im, .int .i64 n] 23)) :=
  held_of (Row.fresh w _ _) (hT.grown (gr_alloc (gr_refl _ _) _)) (gr_alloc (gr_refl _ _) _)
abbrev six (o rd rs1 rs2 im n : Int) : Value := .agg #[.int .i64 o, .int .i64 rd, .int .i64 rs1, .int .i64 rs2, .int .i64 im, .int .i64 n]

/-- The bits of a number, as the program lays them. -/
def numI (o im : Int) : Nat := if 70 ≤ o ∧ o ≤ 75 then low im * 1048576 % 4294967296 else layV im (fmtV o)
theorem numI_lt (o im : Int) : numI o im < 4294967296 := by
  unfold numI
  split
  · omega
  · exact layV_lt _ _
theorem not12 {o : Int} (h : ¬ (70 ≤ o ∧ o ≤ 75)) : (kindV o == 12) = false := by
  rcases (show o ≤ 0 ∨ 97 < o ∨ (1 ≤ o ∧ o ≤ 4) ∨ (5 ≤ o ∧ o ≤ 10) ∨ (11 ≤ o ∧ o ≤ 17) ∨ (18 ≤ o ∧ o ≤ 21) ∨ (22 ≤ o ∧ o ≤ 30) ∨ (31 ≤ o ∧ o ≤ 40) ∨ (41 ≤ o ∧ o ≤ 44) ∨ (45 ≤ o ∧ o ≤ 49) ∨ (50 ≤ o ∧ o ≤ 57) ∨ (58 ≤ o ∧ o ≤ 62) ∨ (63 ≤ o ∧ o ≤ 69) ∨ (70 ≤ o ∧ o ≤ 75) ∨ (76 ≤ o ∧ o ≤ 86) ∨ (87 ≤ o ∧ o ≤ 97) by omega) with k | k | k | k | k | k | k | k | k | k | k | k | k | k | k | k
  · rw [kind0 k]; rfl
  · rw [kind_none o k]; rfl
  · rw [kind1 k]; rfl
  · rw [kind2 k]; rfl
  · rw [kind3 k]; rfl
  · rw [kind4 k]; rfl
  · rw [kind5 k]; rfl
  · rw [kind6 k]; rfl
  · rw [kind7 k]; rfl
  · rw [kind8 k]; rfl
  · rw [kind9 k]; rfl
  · rw [kind10 k]; rfl
  · rw [kind11 k]; rfl
  · exact absurd k h
  · rw [kind13 k]; rfl
  · rw [kind14 k]; rfl
theorem number_csr (o rd rs1 rs2 im n : Int) (h : 70 ≤ o ∧ o ≤ 75) (w : World) (hT : Tbl w) :
    Calls Tryz.prog 37 #[six o rd rs1 rs2 im n] w fun e w' => e = .returned (.int .u32 (numI o im : Nat)) ∧ w.grownBy w' none := by
  have HN := Lib.hid (show ((numI o im : Nat) : Int) = im % 4294967296 * 1048576 % 4294967296 from by rw [numI, if_pos h]; unfold low; omega)
  have HK := Lib.hid (show kindV o = 12 from kind12 h)
  have hS := held_new w hT o rd rs1 rs2 im n
  have HG := Lib.hid hS.gr
  have HT := Lib.hid hS.tbl
  obtain ⟨c0, c1, c2, c3, c4, c5, _, _, _⟩ := hS
  go_enter Tryz.func37, Tryz.ntmps37
  go_wp2_with fail
  refine (Kind_c o (by omega) _ HT.out).mono ?_
  rintro e w' ⟨rfl, rfl⟩
  rw [HK.out]
  go_wp2_with fail
  go_ret
  exact ⟨ret_int HN.out.symm, HG.out⟩
theorem number_no (o rd rs1 rs2 im n : Int) (ho : I64 o) (hi : I64 im) (h : ¬ (70 ≤ o ∧ o ≤ 75)) (w : World) (hT : Tbl w) :
    Calls Tryz.prog 37 #[six o rd rs1 rs2 im n] w fun e w' => e = .returned (.int .u32 (numI o im : Nat)) ∧ w.grownBy w' none := by
  rw [show numI o im = layV im (fmtV o) from if_neg h]
  have hk := not12 h
  have hS := held_new w hT o rd rs1 rs2 im n
  have HT := Lib.hid hS.tbl
  have hS0 := hS
  unfold Held at hS0
  clear hS
  have HF := Lib.hid (fmt_in o)
  have HC := Lib.hid (fun W h => Kind_c o ho W h)
  generalize kindV o = k at *
  have HO := Lib.hid (fun W h => format_c o ho W h)
  have HL := Lib.hid (fun W => Lay_c im (fmtV o) hi (by have := HF.out; omega) W)
  generalize layV im (fmtV o) = lv at *
  generalize layB im (fmtV o) = lb at *
  generalize fmtV o = f at *
  go_enter Tryz.func37, Tryz.ntmps37
  go_wp2_with fail
  refine (HC.out _ HT.out).mono ?_
  rintro e w' ⟨rfl, rfl⟩
  go_wp2_with fail
  generalize w.alloc (.cells #[.int .i64 o, .int .i64 rd, .int .i64 rs1, .int .i64 rs2, .int .i64 im, .int .i64 n] 23) = W at *
  generalize w.heap.size = b at *
  go_region_held3 (fun w' => w'.cell? ⟨b, 0, none⟩ = some (.int .i64 o) ∧ w'.cell? ⟨b, 1, none⟩ = some (.int .i64 rd) ∧ w'.cell? ⟨b, 2, none⟩ = some (.int .i64 rs1) ∧ w'.cell? ⟨b, 3, none⟩ = some (.int .i64 rs2) ∧ w'.cell? ⟨b, 4, none⟩ = some (.int .i64 im) ∧ w'.cell? ⟨b, 5, none⟩ = some (.int .i64 n) ∧ Row w' b 23 [.int .i64 o, .int .i64 rd, .int .i64 rs1, .int .i64 rs2, .int .i64 im, .int .i64 n] ∧ Tbl w' ∧ w.grownBy w' none)
    (first | assumption | (exact Held.on (gr_drew (gr_refl _ none)) (by assumption)) | (exact Held.on (by assumption) (by assumption)))
    (first
      | (go_at_call 75; refine (HO.out _ (Held.tbl (by assumption))).mono ?_; rintro e w' ⟨rfl, rfl⟩)
      | (go_at_call 74; refine (HL.out _).mono ?_; rintro e w' ⟨rfl, hg⟩))
  rename_i hHeld
  have hBe := Held.gr hHeld
  clear hHeld
  go_wp2_with fail
  go_ret
  exact ⟨rfl, hBe⟩
end Go.Proofs.YtpbeamnogfjagaaGreatDoor.E
