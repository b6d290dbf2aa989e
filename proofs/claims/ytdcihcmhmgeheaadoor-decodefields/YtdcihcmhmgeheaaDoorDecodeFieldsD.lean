/-
  The law DecodeFields, way by way (part D): what it answers at a word whose instruction is of one kind.
  Conditions: the table of kinds holds what the program's text lays.
-/
import Derived.Lib.Hide
import Derived.Test.YtdcihcmhmgeheaaDoorDecK
import Derived.Test.YtdcihcmhmgeheaaDoorDecQ
namespace Go.Proofs.YtdcihcmhmgeheaaDoor.decodeFields
open Go Go.RowKit F W M D
set_option linter.unusedVariables false

set_option maxRecDepth 100000 in
set_option maxHeartbeats 4000000 in
theorem way_lrw (x : Nat) (hx : x < 4294967296) (rd rs1 : Int) (h_rd : 0 ≤ rd ∧ rd ≤ 31) (h_rs1 : 0 ≤ rs1 ∧ rs1 ≤ 31) (hW : D.wordV x = (76, rd, rs1, 0, 0)) (w : World) (hL : Tbl w) :
    Calls Tryd.prog 4 #[.int .u32 x] w fun e w' => e = .returned (.bool true) ∧ Below w.heap.size w w' := by
  have HW := Lib.hid (fun W => Word_at hx hW W)
  clear hW
  have HL := Lib.hid hL
  clear hL
  have HK := Lib.hid (show kindV 76 = 13 from by decide)
  have a_rd : decide (rd < 0) = false := (by simp; omega)
  have b_rd : decide (31 < rd) = false := (by simp; omega)
  have a_rs1 : decide (rs1 < 0) = false := (by simp; omega)
  have b_rs1 : decide (31 < rs1) = false := (by simp; omega)
  go_enter Tryd.func4, Tryd.ntmps4
  go_wp2_with fail
  refine (shown04_c _).mono ?_
  rintro e w1 ⟨rfl, hG1⟩
  go_wp2_with fail
  refine (HW.out _).mono ?_
  rintro e w2 ⟨rfl, hG2⟩
  have HL2 := Lib.hid (HL.out.grown (gr_alloc (gr_trans hG1 hG2) (.cells #[.int .i64 76, .int .i64 rd, .int .i64 rs1, .int .i64 0, .int .i64 0, .int .i64 4] 25)))
  have HG := Lib.hid (gr_below (gr_alloc (gr_trans hG1 hG2) (.cells #[.int .i64 76, .int .i64 rd, .int .i64 rs1, .int .i64 0, .int .i64 0, .int .i64 4] 25)))
  clear hG1 hG2
  go_wp2_with fail
  refine (Kind_c 76 (by omega) _ HL2.out).mono ?_
  rintro e w3 ⟨rfl, rfl⟩
  rw [HK.out]
  go_wp2_with fail
  go_ret
  exact ⟨rfl, HG.out⟩
set_option maxRecDepth 100000 in
set_option maxHeartbeats 4000000 in
theorem way_k13 (x : Nat) (hx : x < 4294967296) (o rd rs1 rs2 : Int) (ho : 77 ≤ o ∧ o ≤ 86) (h_rd : 0 ≤ rd ∧ rd ≤ 31) (h_rs1 : 0 ≤ rs1 ∧ rs1 ≤ 31) (h_rs2 : 0 ≤ rs2 ∧ rs2 ≤ 31) (hW : D.wordV x = (o, rd, rs1, rs2, 0)) (w : World) (hL : Tbl w) :
    Calls Tryd.prog 4 #[.int .u32 x] w fun e w' => e = .returned (.bool true) ∧ Below w.heap.size w w' := by
  have HW := Lib.hid (fun W => Word_at hx hW W)
  clear hW
  have HL := Lib.hid hL
  clear hL
  have HK := Lib.hid (show kindV o = 13 from kind_at o 13 (by decide) (show o ≤ 86 by omega) (Or.inr (show (75 : Int) < o by omega)))
  have t1 : decide (o < 0) = false := (by simp; omega)
  have t2 : decide (97 < o) = false := (by simp; omega)
  have n4 : (o != 4) = true := by simp; omega
  have n69 : (o != 69) = true := by simp; omega
  have n76 : (o != 76) = true := by simp; omega
  have n87 : (o != 87) = true := by simp; omega
  have m69 : (o == 69) = false := by simp; omega
  have a_rd : decide (rd < 0) = false := (by simp; omega)
  have b_rd : decide (31 < rd) = false := (by simp; omega)
  have a_rs1 : decide (rs1 < 0) = false := (by simp; omega)
  have b_rs1 : decide (31 < rs1) = false := (by simp; omega)
  have a_rs2 : decide (rs2 < 0) = false := (by simp; omega)
  have b_rs2 : decide (31 < rs2) = false := (by simp; omega)
  go_enter Tryd.func4, Tryd.ntmps4
  go_wp2_with fail
  refine (shown04_c _).mono ?_
  rintro e w1 ⟨rfl, hG1⟩
  go_wp2_with fail
  refine (HW.out _).mono ?_
  rintro e w2 ⟨rfl, hG2⟩
  have HL2 := Lib.hid (HL.out.grown (gr_alloc (gr_trans hG1 hG2) (.cells #[.int .i64 o, .int .i64 rd, .int .i64 rs1, .int .i64 rs2, .int .i64 0, .int .i64 4] 25)))
  have HG := Lib.hid (gr_below (gr_alloc (gr_trans hG1 hG2) (.cells #[.int .i64 o, .int .i64 rd, .int .i64 rs1, .int .i64 rs2, .int .i64 0, .int .i64 4] 25)))
  clear hG1 hG2
  go_wp2_with fail
  refine (Kind_c o (by omega) _ HL2.out).mono ?_
  rintro e w3 ⟨rfl, rfl⟩
  rw [HK.out]
  go_wp2_with fail
  go_ret
  exact ⟨rfl, HG.out⟩
set_option maxRecDepth 100000 in
set_option maxHeartbeats 4000000 in
theorem way_lrd (x : Nat) (hx : x < 4294967296) (rd rs1 : Int) (h_rd : 0 ≤ rd ∧ rd ≤ 31) (h_rs1 : 0 ≤ rs1 ∧ rs1 ≤ 31) (hW : D.wordV x = (87, rd, rs1, 0, 0)) (w : World) (hL : Tbl w) :
    Calls Tryd.prog 4 #[.int .u32 x] w fun e w' => e = .returned (.bool true) ∧ Below w.heap.size w w' := by
  have HW := Lib.hid (fun W => Word_at hx hW W)
  clear hW
  have HL := Lib.hid hL
  clear hL
  have HK := Lib.hid (show kindV 87 = 14 from by decide)
  have a_rd : decide (rd < 0) = false := (by simp; omega)
  have b_rd : decide (31 < rd) = false := (by simp; omega)
  have a_rs1 : decide (rs1 < 0) = false := (by simp; omega)
  have b_rs1 : decide (31 < rs1) = false := (by simp; omega)
  go_enter Tryd.func4, Tryd.ntmps4
  go_wp2_with fail
  refine (shown04_c _).mono ?_
  rintro e w1 ⟨rfl, hG1⟩
  go_wp2_with fail
  refine (HW.out _).mono ?_
  rintro e w2 ⟨rfl, hG2⟩
  have HL2 := Lib.hid (HL.out.grown (gr_alloc (gr_trans hG1 hG2) (.cells #[.int .i64 87, .int .i64 rd, .int .i64 rs1, .int .i64 0, .int .i64 0, .int .i64 4] 25)))
  have HG := Lib.hid (gr_below (gr_alloc (gr_trans hG1 hG2) (.cells #[.int .i64 87, .int .i64 rd, .int .i64 rs1, .int .i64 0, .int .i64 0, .int .i64 4] 25)))
  clear hG1 hG2
  go_wp2_with fail
  refine (Kind_c 87 (by omega) _ HL2.out).mono ?_
  rintro e w3 ⟨rfl, rfl⟩
  rw [HK.out]
  go_wp2_with fail
  go_ret
  exact ⟨rfl, HG.out⟩
set_option maxRecDepth 100000 in
set_option maxHeartbeats 4000000 in
theorem way_k14 (x : Nat) (hx : x < 4294967296) (o rd rs1 rs2 : Int) (ho : 88 ≤ o ∧ o ≤ 97) (h_rd : 0 ≤ rd ∧ rd ≤ 31) (h_rs1 : 0 ≤ rs1 ∧ rs1 ≤ 31) (h_rs2 : 0 ≤ rs2 ∧ rs2 ≤ 31) (hW : D.wordV x = (o, rd, rs1, rs2, 0)) (w : World) (hL : Tbl w) :
    Calls Tryd.prog 4 #[.int .u32 x] w fun e w' => e = .returned (.bool true) ∧ Below w.heap.size w w' := by
  have HW := Lib.hid (fun W => Word_at hx hW W)
  clear hW
  have HL := Lib.hid hL
  clear hL
  have HK := Lib.hid (show kindV o = 14 from kind_at o 14 (by decide) (show o ≤ 97 by omega) (Or.inr (show (86 : Int) < o by omega)))
  have t1 : decide (o < 0) = false := (by simp; omega)
  have t2 : decide (97 < o) = false := (by simp; omega)
  have n4 : (o != 4) = true := by simp; omega
  have n69 : (o != 69) = true := by simp; omega
  have n76 : (o != 76) = true := by simp; omega
  have n87 : (o != 87) = true := by simp; omega
  have m69 : (o == 69) = false := by simp; omega
  have a_rd : decide (rd < 0) = false := (by simp; omega)
  have b_rd : decide (31 < rd) = false := (by simp; omega)
  have a_rs1 : decide (rs1 < 0) = false := (by simp; omega)
  have b_rs1 : decide (31 < rs1) = false := (by simp; omega)
  have a_rs2 : decide (rs2 < 0) = false := (by simp; omega)
  have b_rs2 : decide (31 < rs2) = false := (by simp; omega)
  go_enter Tryd.func4, Tryd.ntmps4
  go_wp2_with fail
  refine (shown04_c _).mono ?_
  rintro e w1 ⟨rfl, hG1⟩
  go_wp2_with fail
  refine (HW.out _).mono ?_
  rintro e w2 ⟨rfl, hG2⟩
  have HL2 := Lib.hid (HL.out.grown (gr_alloc (gr_trans hG1 hG2) (.cells #[.int .i64 o, .int .i64 rd, .int .i64 rs1, .int .i64 rs2, .int .i64 0, .int .i64 4] 25)))
  have HG := Lib.hid (gr_below (gr_alloc (gr_trans hG1 hG2) (.cells #[.int .i64 o, .int .i64 rd, .int .i64 rs1, .int .i64 rs2, .int .i64 0, .int .i64 4] 25)))
  clear hG1 hG2
  go_wp2_with fail
  refine (Kind_c o (by omega) _ HL2.out).mono ?_
  rintro e w3 ⟨rfl, rfl⟩
  rw [HK.out]
  go_wp2_with fail
  go_ret
  exact ⟨rfl, HG.out⟩
end Go.Proofs.YtdcihcmhmgeheaaDoor.decodeFields
