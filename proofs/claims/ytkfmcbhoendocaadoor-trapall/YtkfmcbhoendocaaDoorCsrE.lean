/-
  What Write of package csr answers: a contract over the program's translation.
  Conditions: the arguments are numbers of their kinds.
-/
import Derived.Test.YtkfmcbhoendocaaDoorCsrD
import Derived.Deep.RegionHeld3
import Derived.Deep.RegionWith
namespace Go.Proofs.YtkfmcbhoendocaaDoor
open Go Go.RowKit Go.Maps W M D A C
set_option linter.unusedVariables false
set_option linter.unusedSimpArgs false

theorem cells12 {w : World} {g : Nat} {t : TypeId} {b0 b1 b2 b3 b4 b5 b6 b7 b8 b9 b10 b11 : Int} (h : Row w g t (lC [b0, b1, b2, b3, b4, b5, b6, b7, b8, b9, b10, b11])) : w.cell? ⟨g, 0, none⟩ = some (.int .u64 b0) ∧ w.cell? ⟨g, 1, none⟩ = some (.int .u64 b1) ∧ w.cell? ⟨g, 2, none⟩ = some (.int .u64 b2) ∧ w.cell? ⟨g, 3, none⟩ = some (.int .u64 b3) ∧ w.cell? ⟨g, 4, none⟩ = some (.int .u64 b4) ∧ w.cell? ⟨g, 5, none⟩ = some (.int .u64 b5) ∧ w.cell? ⟨g, 6, none⟩ = some (.int .u64 b6) ∧ w.cell? ⟨g, 7, none⟩ = some (.int .u64 b7) ∧ w.cell? ⟨g, 8, none⟩ = some (.int .u64 b8) ∧ w.cell? ⟨g, 9, none⟩ = some (.int .u64 b9) ∧ w.cell? ⟨g, 10, none⟩ = some (.int .u64 b10) ∧ w.cell? ⟨g, 11, none⟩ = some (.int .u64 b11) := ⟨h.cell 0, h.cell 1, h.cell 2, h.cell 3, h.cell 4, h.cell 5, h.cell 6, h.cell 7, h.cell 8, h.cell 9, h.cell 10, h.cell 11⟩
theorem put12 {w : World} {g : Nat} {t : TypeId} {l : List Value} (h : Row w g t l) (hl : l.length = 12) (b0 b1 b2 b3 b4 b5 b6 b7 b8 b9 b10 b11 : Value) : Row ((((((((((((w.setCell ⟨g, 0, none⟩ b0).setCell ⟨g, 1, none⟩ b1).setCell ⟨g, 2, none⟩ b2).setCell ⟨g, 3, none⟩ b3).setCell ⟨g, 4, none⟩ b4).setCell ⟨g, 5, none⟩ b5).setCell ⟨g, 6, none⟩ b6).setCell ⟨g, 7, none⟩ b7).setCell ⟨g, 8, none⟩ b8).setCell ⟨g, 9, none⟩ b9).setCell ⟨g, 10, none⟩ b10).setCell ⟨g, 11, none⟩ b11) g t [b0, b1, b2, b3, b4, b5, b6, b7, b8, b9, b10, b11] := by
  have := ((((((((((((h.put 0 b0).put 1 b1).put 2 b2).put 3 b3).put 4 b4).put 5 b5).put 6 b6).put 7 b7).put 8 b8).put 9 b9).put 10 b10).put 11 b11)
  match l, hl, this with
  | [_, _, _, _, _, _, _, _, _, _, _, _], _, this => exact this
theorem oth12 {w : World} {g g' : Nat} {t : TypeId} {l : List Value} (h : Row w g' t l) (hn : g' ≠ g) (b0 b1 b2 b3 b4 b5 b6 b7 b8 b9 b10 b11 : Value) : Row ((((((((((((w.setCell ⟨g, 0, none⟩ b0).setCell ⟨g, 1, none⟩ b1).setCell ⟨g, 2, none⟩ b2).setCell ⟨g, 3, none⟩ b3).setCell ⟨g, 4, none⟩ b4).setCell ⟨g, 5, none⟩ b5).setCell ⟨g, 6, none⟩ b6).setCell ⟨g, 7, none⟩ b7).setCell ⟨g, 8, none⟩ b8).setCell ⟨g, 9, none⟩ b9).setCell ⟨g, 10, none⟩ b10).setCell ⟨g, 11, none⟩ b11) g' t l := ((((((((((((h.other hn _).other hn _).other hn _).other hn _).other hn _).other hn _).other hn _).other hn _).other hn _).other hn _).other hn _).other hn _)
theorem gr12s {w0 w : World} {g : Nat} (h : w0.grownBy w (some g)) (b0 b1 b2 b3 b4 b5 b6 b7 b8 b9 b10 b11 : Value) : w0.grownBy ((((((((((((w.setCell ⟨g, 0, none⟩ b0).setCell ⟨g, 1, none⟩ b1).setCell ⟨g, 2, none⟩ b2).setCell ⟨g, 3, none⟩ b3).setCell ⟨g, 4, none⟩ b4).setCell ⟨g, 5, none⟩ b5).setCell ⟨g, 6, none⟩ b6).setCell ⟨g, 7, none⟩ b7).setCell ⟨g, 8, none⟩ b8).setCell ⟨g, 9, none⟩ b9).setCell ⟨g, 10, none⟩ b10).setCell ⟨g, 11, none⟩ b11) (some g) := (gr_set (gr_set (gr_set (gr_set (gr_set (gr_set (gr_set (gr_set (gr_set (gr_set (gr_set (gr_set h _) _) _) _) _) _) _) _) _) _) _) _)
theorem gr12 {w0 w : World} {g : Nat} (h : w0.grownBy w none) (hg : w0.heap.size ≤ g) (b0 b1 b2 b3 b4 b5 b6 b7 b8 b9 b10 b11 : Value) : w0.grownBy ((((((((((((w.setCell ⟨g, 0, none⟩ b0).setCell ⟨g, 1, none⟩ b1).setCell ⟨g, 2, none⟩ b2).setCell ⟨g, 3, none⟩ b3).setCell ⟨g, 4, none⟩ b4).setCell ⟨g, 5, none⟩ b5).setCell ⟨g, 6, none⟩ b6).setCell ⟨g, 7, none⟩ b7).setCell ⟨g, 8, none⟩ b8).setCell ⟨g, 9, none⟩ b9).setCell ⟨g, 10, none⟩ b10).setCell ⟨g, 11, none⟩ b11) none := gr_row (gr12s (gr_none h _) b0 b1 b2 b3 b4 b5 b6 b7 b8 b9 b10 b11) hg
def zC : List Value := lC [0, 0, 0, 0, 0, 0, 0, 0, 0, 0, 0, 0]
set_option maxHeartbeats 2000000 in
theorem Write_c (c : Cs) (hc : C.Good c) (n x : Int) (hn : -9223372036854775808 ≤ n ∧ n ≤ 9223372036854775807) (hx : B64 x) (w : World) :
    Calls Tryd.prog 17 #[vC c, .int .i64 n, .int .u64 x] w fun e w' => e = .returned (vC (writeV c n x)) ∧ w.grownBy w' none := by
  have HR := Lib.hid ((Row.fresh w 24 (lC c)).alloc (.cells zC.toArray 24))
  have HZ := Lib.hid (Row.fresh (w.alloc (.cells (lC c).toArray 24)) 24 zC)
  have HW := Lib.hid (write_good hc n hx)
  have HC := Lib.hid hc
  have HX := Lib.hid hx
  obtain ⟨a0, a1, a2, a3, a4, a5, a6, a7, a8, a9, a10, a11, rfl⟩ := twelve hc.1
  rw [vC_12]
  clear hc
  unfold B64 at hx
  go_enter Tryd.func17, Tryd.ntmps17
  go_wp2_with fail
  refine (registers_c _).mono ?_
  rintro e w1 ⟨m, rfl, hT, hG⟩
  have R1 := Lib.hid (HR.out.grown hG (by simp))
  have Z1 := Lib.hid (show Row w1 (w.heap.size + 1) 24 zC by have := HZ.out.grown hG (by simp); simpa using this)
  have G1 := Lib.hid (gr_trans (gr_alloc (gr_alloc (gr_refl w none) _) _) hG)
  clear hG HR HZ
  rcases hT.lookT Tryd.underlying54 (zeroR _) n hn with ⟨hr, e0⟩ | ⟨v, ⟨j, f⟩, hr, e0, ⟨q, k, rfl, hP, hD⟩⟩
  · unfold zR at hr
    clear hT
    have EZ := Lib.hid (show writeV [a0, a1, a2, a3, a4, a5, a6, a7, a8, a9, a10, a11] n x = [a0, a1, a2, a3, a4, a5, a6, a7, a8, a9, a10, a11] by rw [writeV, e0])
    clear e0
    have R2 := R1.out
    have Z2 := Z1.out
    obtain ⟨k0, k1, k2, k3, k4, k5, k6, k7, k8, k9, k10, k11⟩ := cells12 R2
    obtain ⟨z0, z1, z2, z3, z4, z5, z6, z7, z8, z9, z10, z11⟩ := cells12 Z2
    have zf := Z2.free
    have lt := R2.lt
    have lt2 := Z2.lt
    go_wp2_with fail
    refine ret_C rfl rfl rfl (c := [a0, a1, a2, a3, a4, a5, a6, a7, a8, a9, a10, a11]) ((put12 Z2 rfl _ _ _ _ _ _ _ _ _ _ _ _).alloc _) rfl ⟨by rw [EZ.out], gr_alloc (gr12 G1.out (Nat.le_succ _) _ _ _ _ _ _ _ _ _ _ _ _) _⟩
  · have hj := (tR_bd e0).1
    have EZ := Lib.hid (show writeV [a0, a1, a2, a3, a4, a5, a6, a7, a8, a9, a10, a11] n x = [a0, a1, a2, a3, a4, a5, a6, a7, a8, a9, a10, a11].set j (f (gC [a0, a1, a2, a3, a4, a5, a6, a7, a8, a9, a10, a11] j) x) by rw [writeV, e0])
    have kj : w1.cell? ⟨w.heap.size, j, none⟩ = some (.int .u64 (gC [a0, a1, a2, a3, a4, a5, a6, a7, a8, a9, a10, a11] j)) := (R1.out.cell j).trans (lC_get HC.out.1 j hj)
    have fj := R1.out.free j
    have lt : w.heap.size < w1.heap.size := R1.out.lt
    have hy := Lib.hid (HC.out.get j)
    generalize gC [a0, a1, a2, a3, a4, a5, a6, a7, a8, a9, a10, a11] j = y at *
    obtain ⟨k1, rfl, hop, hP⟩ := hP
    obtain ⟨k2, cap, rfl, hop2, hbd, hc⟩ := hD
    unfold Opens at hop hop2
    have HP := Lib.hid (fun W => hP W w.heap.size)
    have HD := Lib.hid (fun W (hW : Cel w1 W) => hc W hW y x hy.out HX.out)
    have HB := Lib.hid (hbd y x hy.out HX.out)
    clear e0 hT hP hc hbd
    go_wp2_with fail
    refine (HP.out _).mono ?_
    rintro e w3 ⟨rfl, rfl⟩
    go_wp2_with fail
    have HV := Lib.hid (gr_alloc (gr_refl w1 none) (.cells #[.func (.func k1) #[] #[], .func (.func k2) #[] cap] 52))
    have R2 := Lib.hid (R1.out.grown HV.out (by simp))
    have Z2 := Lib.hid (Z1.out.grown HV.out (by simp))
    have G2 := Lib.hid (gr_trans G1.out HV.out)
    have H2 := Lib.hid (Row.fresh w1 52 [.func (.func k1) #[] #[], .func (.func k2) #[] cap])
    have c1 : (w1.alloc (.cells #[.func (.func k1) #[] #[], .func (.func k2) #[] cap] 52)).cell? ⟨w1.heap.size, 1, none⟩ = some (.func (.func k2) #[] cap) := H2.out.cell 1
    have cj : (w1.alloc (.cells #[.func (.func k1) #[] #[], .func (.func k2) #[] cap] 52)).cell? ⟨w.heap.size, j, none⟩ = some (.int .u64 y) := ((R2.out.cell j).trans (R1.out.cell j).symm).trans kj
    have fj := R2.out.free j
    clear R1 Z1 G1 H2 kj
    generalize w1.alloc (.cells #[.func (.func k1) #[] #[], .func (.func k2) #[] cap] 52) = V at *
    go_region_with (refine (HD.out _ (cel_gr (gr_drew HV.out))).mono ?_; rintro e w4 ⟨rfl, rfl⟩)
    all_goals
      have RU : Row ((V.setCell ⟨w.heap.size, j, none⟩ (.int .u64 (f y x))).drew) w.heap.size 24 (lC (writeV [a0, a1, a2, a3, a4, a5, a6, a7, a8, a9, a10, a11] n x)) := by
        rw [EZ.out, lC_set]; exact R2.out.put j _
      have ZU : Row ((V.setCell ⟨w.heap.size, j, none⟩ (.int .u64 (f y x))).drew) (w.heap.size + 1) 24 zC := Z2.out.other (by simp) _
      have GU : w.grownBy ((V.setCell ⟨w.heap.size, j, none⟩ (.int .u64 (f y x))).drew) none := gr_drew (gr_row (gr_set (gr_none G2.out _) _) (Nat.le_refl _))
      generalize (V.setCell ⟨w.heap.size, j, none⟩ (.int .u64 (f y x))).drew = U at *
      obtain ⟨b0, b1, b2, b3, b4, b5, b6, b7, b8, b9, b10, b11, eb⟩ := twelve HW.out.1
      have EB := Lib.hid eb
      rw [eb] at RU
      obtain ⟨k0, k1, k2, k3, k4, k5, k6, k7, k8, k9, k10, k11⟩ := cells12 RU
      obtain ⟨z0, z1, z2, z3, z4, z5, z6, z7, z8, z9, z10, z11⟩ := cells12 ZU
      have zf := ZU.free
      clear cj fj c1 eb
      go_wp2_with fail
      refine ret_C rfl rfl rfl (c := [b0, b1, b2, b3, b4, b5, b6, b7, b8, b9, b10, b11]) (put12 ZU rfl _ _ _ _ _ _ _ _ _ _ _ _) rfl ⟨by rw [EB.out], gr12 GU (Nat.le_succ _) _ _ _ _ _ _ _ _ _ _ _ _⟩
end Go.Proofs.YtkfmcbhoendocaaDoor
