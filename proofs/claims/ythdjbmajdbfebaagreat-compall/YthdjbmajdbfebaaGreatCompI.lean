/-
  What Half and Any of package comp answer, field by field; and the document's example, as the head of layer 5's statements has it: it answers true.
  Conditions: the arguments are numbers of their kinds.
-/
import Derived.Test.YthdjbmajdbfebaaGreatCompH
import Derived.Test.YthdjbmajdbfebaaGreatCompS
import Derived.Test.YthdjbmajdbfebaaGreatDecN
namespace Go.Proofs.YthdjbmajdbfebaaGreat
open Go Go.RowKit F W M D
set_option linter.unusedVariables false

theorem Half_at {h : Nat} {o rd rs1 rs2 im : Int} (hh : h < 65536) (hV : halfV h = (o, rd, rs1, rs2, im)) (w : World) :
    Calls Tryz.prog 5 #[.int .u16 h] w fun e w' => e = .returned (.agg #[.int .i64 o, .int .i64 rd, .int .i64 rs1, .int .i64 rs2, .int .i64 im, .int .i64 2]) ∧ w.grownBy w' none := by
  have := Half_c h hh w
  rw [hV] at this
  exact this
theorem half_sample : halfV 17665 = (22, 10, 0, 0, 0) := by decide +kernel
theorem half_zero : halfV 0 = (0, 0, 0, 0, 0) := by decide +kernel
theorem u16_of (x : Nat) : IntKind.u16.wrap (x : Int) = ((x % 65536 : Nat) : Int) := by
  rw [IntKind.wrap_u16]; omega
set_option maxHeartbeats 1000000 in
theorem Any_word {x : Nat} {o rd rs1 rs2 im : Int} (hx : x < 4294967296) (h3 : x % 4 = 3) (hV : D.wordV x = (o, rd, rs1, rs2, im)) (w : World) :
    Calls Tryz.prog 7 #[.int .u32 x] w fun e w' => e = .returned (.agg #[.int .i64 o, .int .i64 rd, .int .i64 rs1, .int .i64 rs2, .int .i64 im, .int .i64 4]) ∧ w.grownBy w' none := by
  have HR := Lib.hid (Row.fresh w 26 six0)
  have eu := Lib.hid (u16_of x)
  have hy : x % 65536 < 65536 := by omega
  have eq := Lib.hid (show F.get (x % 65536) 0 2 = x % 4 by rw [get_q]; omega)
  have HW := Lib.hid (fun W => Word_at hx hV W)
  rw [h3] at eq
  clear hV
  generalize x % 65536 = y at *
  have HG := Lib.hid (fun W => cget_c y 0 2 hy (by decide) (by decide) W)
  go_enter Tryz.func7, Tryz.ntmps7
  go_wp2_with fail
  rw [eu.out]
  refine (HG.out _).mono ?_
  rintro e w1 ⟨rfl, rfl⟩
  rw [eq.out]
  go_wp2_with fail
  refine (HW.out _).mono ?_
  rintro e w1 ⟨rfl, hG⟩
  have hR := Lib.hid (HR.out.grown hG (by simp)); have k0 := hR.out.cell 0; have k1 := hR.out.cell 1; have k2 := hR.out.cell 2; have k3 := hR.out.cell 3; have k4 := hR.out.cell 4; have k5 := hR.out.cell 5; have kz := hR.out.free; simp only [six0, List.getElem?_cons_zero, List.getElem?_cons_succ] at k0 k1 k2 k3 k4 k5
  go_wp2_with fail
  exact six_ret rfl rfl rfl (six hR.out rfl _ _ _ _ _ _) ⟨rfl, six_gr (gr_trans (gr_alloc (gr_refl _ _) _) hG) (Nat.le_refl _) _ _ _ _ _ _⟩
set_option maxHeartbeats 1000000 in
theorem Any_half {x : Nat} {o rd rs1 rs2 im : Int} (hx : x < 4294967296) (h3 : x % 4 ≠ 3) (hV : halfV (x % 65536) = (o, rd, rs1, rs2, im)) (w : World) :
    Calls Tryz.prog 7 #[.int .u32 x] w fun e w' => e = .returned (.agg #[.int .i64 o, .int .i64 rd, .int .i64 rs1, .int .i64 rs2, .int .i64 im, .int .i64 2]) ∧ w.grownBy w' none := by
  have HR := Lib.hid (Row.fresh w 26 six0)
  have eu := Lib.hid (u16_of x)
  have hy : x % 65536 < 65536 := by omega
  have eq := Lib.hid (show F.get (x % 65536) 0 2 = x % 4 by rw [get_q]; omega)
  have HW := Lib.hid (fun W => Half_at hy hV W)
  clear hV
  have hl : x % 4 < 4 := by omega
  have d3 : (((x % 4 : Nat) : Int) == 3) = false := by simpa using (show ((x % 4 : Nat) : Int) ≠ 3 by omega)
  generalize x % 4 = z at *
  generalize x % 65536 = y at *
  have HG := Lib.hid (fun W => cget_c y 0 2 hy (by decide) (by decide) W)
  go_enter Tryz.func7, Tryz.ntmps7
  go_wp2_with fail
  rw [eu.out]
  refine (HG.out _).mono ?_
  rintro e w1 ⟨rfl, rfl⟩
  rw [eq.out]
  go_wp2_with fail
  refine (HW.out _).mono ?_
  rintro e w1 ⟨rfl, hG⟩
  have hR := Lib.hid (HR.out.grown hG (by simp)); have k0 := hR.out.cell 0; have k1 := hR.out.cell 1; have k2 := hR.out.cell 2; have k3 := hR.out.cell 3; have k4 := hR.out.cell 4; have k5 := hR.out.cell 5; have kz := hR.out.free; simp only [six0, List.getElem?_cons_zero, List.getElem?_cons_succ] at k0 k1 k2 k3 k4 k5
  go_wp2_with fail
  exact six_ret rfl rfl rfl (six hR.out rfl _ _ _ _ _ _) ⟨rfl, six_gr (gr_trans (gr_alloc (gr_refl _ _) _) hG) (Nat.le_refl _) _ _ _ _ _ _⟩
theorem shown05_c (w : World) : Calls Tryz.prog 4 #[] w fun e w' => e = .returned (.bool true) ∧ w.grownBy w' none := by
  go_enter Tryz.func4, Tryz.ntmps4
  go_wp2_with fail
  refine (Half_at (h := 17665) (by omega) half_sample _).mono ?_
  rintro e w1 ⟨rfl, hG⟩
  go_wp2_with fail
  go_ret
  exact ⟨rfl, hG⟩
end Go.Proofs.YthdjbmajdbfebaaGreat
