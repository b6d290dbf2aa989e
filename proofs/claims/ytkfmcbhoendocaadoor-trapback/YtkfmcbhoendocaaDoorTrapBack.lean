/-
  Proved: for any registers and any trap, the law TrapBack returns true: who enters from a privilege that there is, and comes back, is where it was; legal registers stay so.
  Conditions: none beyond the statement's own (its listed variable is tied to the program's text).
-/
import Derived.Test.YtkfmcbhoendocaaDoorRows
import Derived.Test.YtkfmcbhoendocaaDoorLayO
import Derived.Lib.Hide
import Derived.Deep.RegionHeld3
import Derived.Test.YtkfmcbhoendocaaDoorCards
import Derived.Test.YtkfmcbhoendocaaDoorTie
import Derived.SevenTiedAt
import Derived.Test.YtkfmcbhoendocaaDoorTrDoor
import Derived.Test.YtkfmcbhoendocaaDoorTrLw
import Derived.Test.YtkfmcbhoendocaaDoorTrW
import Derived.Test.YtkfmcbhoendocaaDoorCsrR2
namespace Go.Proofs.YtkfmcbhoendocaaDoor.trapBack
open Go Go.ChangeShapes Go.WideShapes Go.ChangeAt Go.RowKit W M D A C J
set_option linter.unusedVariables false

/-- What stands behind the calls. -/
structure St (w0 : World) (q b3 b4 : Nat) (l a b : Cs) (t : List Value) (w : World) : Prop where
  rc : Row w q 24 (lC l)
  rt : Row w (q + 1) 26 t
  ra : Row w b3 24 (lC a)
  rb : Row w b4 24 (lC b)
  gr : w0.grownBy w none
theorem St.on {w0 w w' : World} {q b3 b4 : Nat} {l a b : Cs} {t : List Value} (h : St w0 q b3 b4 l a b t w) (hg : w.grownBy w' none) : St w0 q b3 b4 l a b t w' :=
  ⟨h.rc.grown hg (by simp), h.rt.grown hg (by simp), h.ra.grown hg (by simp), h.rb.grown hg (by simp), gr_trans h.gr hg⟩
section
variable {w0 w w' : World} {q b3 b4 : Nat} {l : Cs} {t : List Value} {x0 x1 x2 x3 x4 x5 x6 x7 x8 x9 x10 x11 y0 y1 y2 y3 y4 y5 y6 y7 y8 y9 y10 y11 : Int}
def Two (w0 : World) (q b3 b4 : Nat) (l : Cs) (t : List Value) (x0 x1 x2 x3 x4 x5 x6 x7 x8 x9 x10 x11 y0 y1 y2 y3 y4 y5 y6 y7 y8 y9 y10 y11 : Int) (w : World) : Prop :=
  w.cell? ⟨b3, 0, none⟩ = some (.int .u64 x0) ∧ w.cell? ⟨b3, 1, none⟩ = some (.int .u64 x1) ∧ w.cell? ⟨b3, 2, none⟩ = some (.int .u64 x2) ∧ w.cell? ⟨b3, 3, none⟩ = some (.int .u64 x3) ∧ w.cell? ⟨b3, 4, none⟩ = some (.int .u64 x4) ∧ w.cell? ⟨b3, 5, none⟩ = some (.int .u64 x5) ∧ w.cell? ⟨b3, 6, none⟩ = some (.int .u64 x6) ∧ w.cell? ⟨b3, 7, none⟩ = some (.int .u64 x7) ∧ w.cell? ⟨b3, 8, none⟩ = some (.int .u64 x8) ∧ w.cell? ⟨b3, 9, none⟩ = some (.int .u64 x9) ∧ w.cell? ⟨b3, 10, none⟩ = some (.int .u64 x10) ∧ w.cell? ⟨b3, 11, none⟩ = some (.int .u64 x11) ∧ w.cell? ⟨b4, 0, none⟩ = some (.int .u64 y0) ∧ w.cell? ⟨b4, 1, none⟩ = some (.int .u64 y1) ∧ w.cell? ⟨b4, 2, none⟩ = some (.int .u64 y2) ∧ w.cell? ⟨b4, 3, none⟩ = some (.int .u64 y3) ∧ w.cell? ⟨b4, 4, none⟩ = some (.int .u64 y4) ∧ w.cell? ⟨b4, 5, none⟩ = some (.int .u64 y5) ∧ w.cell? ⟨b4, 6, none⟩ = some (.int .u64 y6) ∧ w.cell? ⟨b4, 7, none⟩ = some (.int .u64 y7) ∧ w.cell? ⟨b4, 8, none⟩ = some (.int .u64 y8) ∧ w.cell? ⟨b4, 9, none⟩ = some (.int .u64 y9) ∧ w.cell? ⟨b4, 10, none⟩ = some (.int .u64 y10) ∧ w.cell? ⟨b4, 11, none⟩ = some (.int .u64 y11) ∧ St w0 q b3 b4 l [x0, x1, x2, x3, x4, x5, x6, x7, x8, x9, x10, x11] [y0, y1, y2, y3, y4, y5, y6, y7, y8, y9, y10, y11] t w
theorem two_of (h : St w0 q b3 b4 l [x0, x1, x2, x3, x4, x5, x6, x7, x8, x9, x10, x11] [y0, y1, y2, y3, y4, y5, y6, y7, y8, y9, y10, y11] t w) : Two w0 q b3 b4 l t x0 x1 x2 x3 x4 x5 x6 x7 x8 x9 x10 x11 y0 y1 y2 y3 y4 y5 y6 y7 y8 y9 y10 y11 w :=
  ⟨h.ra.cell 0, h.ra.cell 1, h.ra.cell 2, h.ra.cell 3, h.ra.cell 4, h.ra.cell 5, h.ra.cell 6, h.ra.cell 7, h.ra.cell 8, h.ra.cell 9, h.ra.cell 10, h.ra.cell 11, h.rb.cell 0, h.rb.cell 1, h.rb.cell 2, h.rb.cell 3, h.rb.cell 4, h.rb.cell 5, h.rb.cell 6, h.rb.cell 7, h.rb.cell 8, h.rb.cell 9, h.rb.cell 10, h.rb.cell 11, h⟩
theorem Two.st (h : Two w0 q b3 b4 l t x0 x1 x2 x3 x4 x5 x6 x7 x8 x9 x10 x11 y0 y1 y2 y3 y4 y5 y6 y7 y8 y9 y10 y11 w) : St w0 q b3 b4 l [x0, x1, x2, x3, x4, x5, x6, x7, x8, x9, x10, x11] [y0, y1, y2, y3, y4, y5, y6, y7, y8, y9, y10, y11] t w := h.2.2.2.2.2.2.2.2.2.2.2.2.2.2.2.2.2.2.2.2.2.2.2.2
theorem Two.on (hg : w.grownBy w' none) (h : Two w0 q b3 b4 l t x0 x1 x2 x3 x4 x5 x6 x7 x8 x9 x10 x11 y0 y1 y2 y3 y4 y5 y6 y7 y8 y9 y10 y11 w) : Two w0 q b3 b4 l t x0 x1 x2 x3 x4 x5 x6 x7 x8 x9 x10 x11 y0 y1 y2 y3 y4 y5 y6 y7 y8 y9 y10 y11 w' := two_of (h.st.on hg)
end
set_option maxRecDepth 100000 in
set_option maxHeartbeats 40000000 in
theorem walk (w : World) (hL : Ints w) (a0_0 : Int) (w0_0 : (Lit.int .u64 a0_0).wf = true) (a0_1 : Int) (w0_1 : (Lit.int .u64 a0_1).wf = true) (a0_2 : Int) (w0_2 : (Lit.int .u64 a0_2).wf = true) (a0_3 : Int) (w0_3 : (Lit.int .u64 a0_3).wf = true) (a0_4 : Int) (w0_4 : (Lit.int .u64 a0_4).wf = true) (a0_5 : Int) (w0_5 : (Lit.int .u64 a0_5).wf = true) (a0_6 : Int) (w0_6 : (Lit.int .u64 a0_6).wf = true) (a0_7 : Int) (w0_7 : (Lit.int .u64 a0_7).wf = true) (a0_8 : Int) (w0_8 : (Lit.int .u64 a0_8).wf = true) (a0_9 : Int) (w0_9 : (Lit.int .u64 a0_9).wf = true) (a0_10 : Int) (w0_10 : (Lit.int .u64 a0_10).wf = true) (a0_11 : Int) (w0_11 : (Lit.int .u64 a0_11).wf = true) (a1_0 : Int) (w1_0 : (Lit.int .i64 a1_0).wf = true) (a1_1 : Int) (w1_1 : (Lit.int .i64 a1_1).wf = true) (a1_2 : Int) (w1_2 : (Lit.int .u64 a1_2).wf = true) (a1_3 : Int) (w1_3 : (Lit.int .u64 a1_3).wf = true) (a1_4 : Bool) :
    Calls Tryd.prog 4 #[.agg #[.int .u64 a0_0, .int .u64 a0_1, .int .u64 a0_2, .int .u64 a0_3, .int .u64 a0_4, .int .u64 a0_5, .int .u64 a0_6, .int .u64 a0_7, .int .u64 a0_8, .int .u64 a0_9, .int .u64 a0_10, .int .u64 a0_11], .agg #[.int .i64 a1_0, .int .i64 a1_1, .int .u64 a1_2, .int .u64 a1_3, .bool a1_4]] w fun e w' => e = .returned (.bool true) ∧ Below w.heap.size w w' := by
  have hc : C.Good [a0_0, a0_1, a0_2, a0_3, a0_4, a0_5, a0_6, a0_7, a0_8, a0_9, a0_10, a0_11] := good12 (bounds_u64 w0_0) (bounds_u64 w0_1) (bounds_u64 w0_2) (bounds_u64 w0_3) (bounds_u64 w0_4) (bounds_u64 w0_5) (bounds_u64 w0_6) (bounds_u64 w0_7) (bounds_u64 w0_8) (bounds_u64 w0_9) (bounds_u64 w0_10) (bounds_u64 w0_11)
  have hp := bounds_i64 w1_0
  have hk := bounds_i64 w1_1
  have hpc : B64 a1_2 := bounds_u64 w1_2
  have hv : B64 a1_3 := bounds_u64 w1_3
  have RC := Lib.hid ((Row.fresh w 24 (lC [a0_0, a0_1, a0_2, a0_3, a0_4, a0_5, a0_6, a0_7, a0_8, a0_9, a0_10, a0_11])).alloc (.cells #[.int .i64 a1_0, .int .i64 a1_1, .int .u64 a1_2, .int .u64 a1_3, .bool a1_4] 26))
  have RT := Lib.hid (freshB w (.cells (lC [a0_0, a0_1, a0_2, a0_3, a0_4, a0_5, a0_6, a0_7, a0_8, a0_9, a0_10, a0_11]).toArray 24) 26 [.int .i64 a1_0, .int .i64 a1_1, .int .u64 a1_2, .int .u64 a1_3, .bool a1_4])
  have G0 := Lib.hid (gr_alloc (gr_alloc (gr_refl w none) (.cells (lC [a0_0, a0_1, a0_2, a0_3, a0_4, a0_5, a0_6, a0_7, a0_8, a0_9, a0_10, a0_11]).toArray 24)) (.cells #[.int .i64 a1_0, .int .i64 a1_1, .int .u64 a1_2, .int .u64 a1_3, .bool a1_4] 26))
  have hl := legal_good hc
  have hpp : a1_0 % 2 = 0 ∨ a1_0 % 2 = 1 := by omega
  have ep := and1i a1_0
  generalize a1_0 % 2 = pp at *
  have hpi : -9223372036854775808 ≤ pp ∧ pp ≤ 9223372036854775807 := by omega
  have L1 := Lib.hid (fun W => rLegal_c _ hc W)
  have E1 := Lib.hid (fun W => Enter_c _ hl pp a1_2 a1_4 a1_1 a1_3 hpi hpc hk hv W)
  have hE := enter_good hl pp hpc a1_4 a1_1 hv
  have hB := back_good hE
  have B1 := Lib.hid (fun W => Back_c _ hE W)
  have P1 := Lib.hid (fun W (h : w.grownBy W none) => Pending_c _ hE 1 (by decide) W (hL.grown h))
  have LA := Lib.hid (fun W => rLegal_c _ hE W)
  have LB := Lib.hid (fun W => rLegal_c _ hB W)
  obtain ⟨l0, l1, l2, l3, l4, l5, l6, l7, l8, l9, l10, l11, en, le, pe, ca, el, ee, eb, et, ev, d1, d2, d3, d4, eA, eB⟩ := there_back hc pp hpp hpc a1_4 a1_1 a1_3 hv
  have gl := hl
  have ge := hE
  have gb := hB
  rw [el] at gl
  rw [ee] at ge
  rw [eb] at gb
  have h0 : B64 l0 := gl.get 0
  have h5 : B64 pe := ge.get 5
  have hle : B64 le := gb.get 0
  have hen : B64 en := ge.get 0
  clear gl ge gb hl hE hB
  rw [el] at L1 E1
  rw [el] at ee eb
  rw [ee] at eb
  rw [el, ee] at B1 P1 LA LB
  rw [eb] at LB
  rw [ee] at E1
  rw [eb] at B1
  rw [show gC [en, l1, l2, l3, l4, pe, ca, a1_3, l8, l9, l10, l11] 0 = en from rfl, show gC [en, l1, l2, l3, l4, pe, ca, a1_3, l8, l9, l10, l11] 5 = pe from rfl, ev] at B1
  rw [show gC [en, l1, l2, l3, l4, pe, ca, a1_3, l8, l9, l10, l11] 0 = en from rfl, (et _).1, (et _).2] at P1
  rw [eA] at LA
  rw [eB] at LB
  unfold vCT at E1
  unfold vCTT at B1
  unfold vI at P1
  simp only [vC_12] at L1 E1 B1 P1 LA LB
  generalize handV (gC [l0, l1, l2, l3, l4, l5, l6, l7, l8, l9, l10, l11] 2) a1_4 a1_1 = ha at *
  clear el ee eb et ev eA eB hc
  have LAB := Lib.hid (show ∀ x, (x = en ∨ x = le) → ∀ W : World, Calls Tryd.prog 15 #[.agg #[.int .u64 x, .int .u64 l1, .int .u64 l2, .int .u64 l3, .int .u64 l4, .int .u64 pe, .int .u64 ca, .int .u64 a1_3, .int .u64 l8, .int .u64 l9, .int .u64 l10, .int .u64 l11]] W fun e w' => e = .returned (.agg #[.int .u64 x, .int .u64 l1, .int .u64 l2, .int .u64 l3, .int .u64 l4, .int .u64 pe, .int .u64 ca, .int .u64 a1_3, .int .u64 l8, .int .u64 l9, .int .u64 l10, .int .u64 l11]) ∧ W.grownBy w' none by
    intro x hx W
    rcases hx with hx | hx
    · rw [hx]; exact LA.out W
    · rw [hx]; exact LB.out W)
  clear LA LB
  have q1 := fun W => neq_self en l1 l2 l3 l4 pe ca a1_3 l8 l9 l10 l11 W
  have q2 := fun W => neq_self le l1 l2 l3 l4 pe ca a1_3 l8 l9 l10 l11 W
  have q3 := fun W => eql_self l0 l1 l2 l3 l4 l5 l6 l7 l8 l9 l10 l11 W
  have hp5 : (pe != pe) = false := by simp
  unfold B64 at h0 h5 hle hen hpc hv

  clear w0_0 w0_1 w0_2 w0_3 w0_4 w0_5 w0_6 w0_7 w0_8 w0_9 w0_10 w0_11 w1_0 w1_1 w1_2 w1_3
  go_enter Tryd.func4, Tryd.ntmps4
  go_wp2_with fail
  refine (shown14_c _).mono ?_
  rintro e w1 ⟨rfl, hG⟩
  have RC1 := Row.grown RC.out hG (by simp)
  have RT1 := Row.grown RT.out hG (by simp)
  have GW := gr_trans G0.out hG
  clear RC RT G0 hG
  obtain ⟨q, hq⟩ : ∃ q, w.heap.size = q := ⟨_, rfl⟩
  rw [hq] at RC1 RT1 ⊢
  have HQ := Lib.hid (show w.heap.size ≤ q by omega)
  clear hq
  obtain ⟨k0, k1, k2, k3, k4, k5, k6, k7, k8, k9, k10, k11⟩ := cells12 RC1
  have frRC1 := RC1.free
  have ltRC1 := RC1.lt
  go_wp2_with fail
  refine (L1.out _).mono ?_
  rintro e w2 ⟨rfl, hG⟩
  clear k0 k1 k2 k3 k4 k5 k6 k7 k8 k9 k10 k11 frRC1 ltRC1
  replace RC1 := Row.grown RC1 hG (by simp)
  replace RT1 := Row.grown RT1 hG (by simp)
  replace GW := gr_trans GW hG
  clear hG
  obtain ⟨k0, k1, k2, k3, k4, k5, k6, k7, k8, k9, k10, k11⟩ := cells12 RC1
  obtain ⟨t0, t1, t2, t3, t4⟩ := cells5 RT1
  have frRC1 := RC1.free
  have ltRC1 := RC1.lt
  go_wp2_with fail
  refine (E1.out _).mono ?_
  rintro e w3 ⟨rfl, hG⟩
  have RC2 : Row w3 q 24 (lC [l0, l1, l2, l3, l4, l5, l6, l7, l8, l9, l10, l11]) := Row.grown (put12 RC1 rfl (.int .u64 l0) (.int .u64 l1) (.int .u64 l2) (.int .u64 l3) (.int .u64 l4) (.int .u64 l5) (.int .u64 l6) (.int .u64 l7) (.int .u64 l8) (.int .u64 l9) (.int .u64 l10) (.int .u64 l11)) hG (by simp)
  have RT2 := Row.grown (oth12 RT1 (by omega) (.int .u64 l0) (.int .u64 l1) (.int .u64 l2) (.int .u64 l3) (.int .u64 l4) (.int .u64 l5) (.int .u64 l6) (.int .u64 l7) (.int .u64 l8) (.int .u64 l9) (.int .u64 l10) (.int .u64 l11)) hG (by simp)
  have GW2 := gr_trans (gr12 GW HQ.out (.int .u64 l0) (.int .u64 l1) (.int .u64 l2) (.int .u64 l3) (.int .u64 l4) (.int .u64 l5) (.int .u64 l6) (.int .u64 l7) (.int .u64 l8) (.int .u64 l9) (.int .u64 l10) (.int .u64 l11)) hG
  clear k0 k1 k2 k3 k4 k5 k6 k7 k8 k9 k10 k11 t0 t1 t2 t3 t4 frRC1 ltRC1
  clear hG RC1 RT1 GW
  have RC1 := RC2
  have RT1 := RT2
  have GW := GW2
  clear RC2 RT2 GW2
  have RA : Row (w3.alloc (.cells #[.int .u64 en, .int .u64 l1, .int .u64 l2, .int .u64 l3, .int .u64 l4, .int .u64 pe, .int .u64 ca, .int .u64 a1_3, .int .u64 l8, .int .u64 l9, .int .u64 l10, .int .u64 l11] 24)) w3.heap.size 24 (lC [en, l1, l2, l3, l4, pe, ca, a1_3, l8, l9, l10, l11]) := Row.fresh w3 24 (lC [en, l1, l2, l3, l4, pe, ca, a1_3, l8, l9, l10, l11])
  have apb3RC1 := RC1.lt
  have apb3RT1 := RT1.lt
  replace RC1 := Row.alloc RC1 (.cells #[.int .u64 en, .int .u64 l1, .int .u64 l2, .int .u64 l3, .int .u64 l4, .int .u64 pe, .int .u64 ca, .int .u64 a1_3, .int .u64 l8, .int .u64 l9, .int .u64 l10, .int .u64 l11] 24)
  replace RT1 := Row.alloc RT1 (.cells #[.int .u64 en, .int .u64 l1, .int .u64 l2, .int .u64 l3, .int .u64 l4, .int .u64 pe, .int .u64 ca, .int .u64 a1_3, .int .u64 l8, .int .u64 l9, .int .u64 l10, .int .u64 l11] 24)
  replace GW := gr_alloc GW (.cells #[.int .u64 en, .int .u64 l1, .int .u64 l2, .int .u64 l3, .int .u64 l4, .int .u64 pe, .int .u64 ca, .int .u64 a1_3, .int .u64 l8, .int .u64 l9, .int .u64 l10, .int .u64 l11] 24)
  obtain ⟨m0, m1, m2, m3, m4, m5, m6, m7, m8, m9, m10, m11⟩ := cells12 RA
  go_wp2_with fail
  generalize w3.alloc (.cells #[.int .u64 en, .int .u64 l1, .int .u64 l2, .int .u64 l3, .int .u64 l4, .int .u64 pe, .int .u64 ca, .int .u64 a1_3, .int .u64 l8, .int .u64 l9, .int .u64 l10, .int .u64 l11] 24) = Vb3 at *
  generalize w3.heap.size = b3 at *
  refine (B1.out _).mono ?_
  rintro e w4 ⟨rfl, hG⟩
  clear m0 m1 m2 m3 m4 m5 m6 m7 m8 m9 m10 m11
  replace RC1 := Row.grown RC1 hG (by simp)
  replace RT1 := Row.grown RT1 hG (by simp)
  replace RA := Row.grown RA hG (by simp)
  replace GW := gr_trans GW hG
  clear hG
  have RB : Row (w4.alloc (.cells #[.int .u64 le, .int .u64 l1, .int .u64 l2, .int .u64 l3, .int .u64 l4, .int .u64 pe, .int .u64 ca, .int .u64 a1_3, .int .u64 l8, .int .u64 l9, .int .u64 l10, .int .u64 l11] 24)) w4.heap.size 24 (lC [le, l1, l2, l3, l4, pe, ca, a1_3, l8, l9, l10, l11]) := Row.fresh w4 24 (lC [le, l1, l2, l3, l4, pe, ca, a1_3, l8, l9, l10, l11])
  have apb4RC1 := RC1.lt
  have apb4RT1 := RT1.lt
  have apb4RA := RA.lt
  replace RC1 := Row.alloc RC1 (.cells #[.int .u64 le, .int .u64 l1, .int .u64 l2, .int .u64 l3, .int .u64 l4, .int .u64 pe, .int .u64 ca, .int .u64 a1_3, .int .u64 l8, .int .u64 l9, .int .u64 l10, .int .u64 l11] 24)
  replace RT1 := Row.alloc RT1 (.cells #[.int .u64 le, .int .u64 l1, .int .u64 l2, .int .u64 l3, .int .u64 l4, .int .u64 pe, .int .u64 ca, .int .u64 a1_3, .int .u64 l8, .int .u64 l9, .int .u64 l10, .int .u64 l11] 24)
  replace RA := Row.alloc RA (.cells #[.int .u64 le, .int .u64 l1, .int .u64 l2, .int .u64 l3, .int .u64 l4, .int .u64 pe, .int .u64 ca, .int .u64 a1_3, .int .u64 l8, .int .u64 l9, .int .u64 l10, .int .u64 l11] 24)
  replace GW := gr_alloc GW (.cells #[.int .u64 le, .int .u64 l1, .int .u64 l2, .int .u64 l3, .int .u64 l4, .int .u64 pe, .int .u64 ca, .int .u64 a1_3, .int .u64 l8, .int .u64 l9, .int .u64 l10, .int .u64 l11] 24)
  obtain ⟨m0, m1, m2, m3, m4, m5, m6, m7, m8, m9, m10, m11⟩ := cells12 RA
  obtain ⟨n0, n1, n2, n3, n4, n5, n6, n7, n8, n9, n10, n11⟩ := cells12 RB
  go_wp2_with fail
  generalize w4.alloc (.cells #[.int .u64 le, .int .u64 l1, .int .u64 l2, .int .u64 l3, .int .u64 l4, .int .u64 pe, .int .u64 ca, .int .u64 a1_3, .int .u64 l8, .int .u64 l9, .int .u64 l10, .int .u64 l11] 24) = Vb4 at *
  generalize w4.heap.size = b4 at *
  refine (P1.out _ GW).mono ?_
  rintro e w5 ⟨rfl, hG⟩
  clear m0 m1 m2 m3 m4 m5 m6 m7 m8 m9 m10 m11 n0 n1 n2 n3 n4 n5 n6 n7 n8 n9 n10 n11
  replace RC1 := Row.grown RC1 hG (by simp)
  replace RT1 := Row.grown RT1 hG (by simp)
  replace RA := Row.grown RA hG (by simp)
  replace RB := Row.grown RB hG (by simp)
  replace GW := gr_trans GW hG
  clear hG
  obtain ⟨k0, k1, k2, k3, k4, k5, k6, k7, k8, k9, k10, k11⟩ := cells12 RC1
  obtain ⟨t0, t1, t2, t3, t4⟩ := cells5 RT1
  obtain ⟨m0, m1, m2, m3, m4, m5, m6, m7, m8, m9, m10, m11⟩ := cells12 RA
  obtain ⟨n0, n1, n2, n3, n4, n5, n6, n7, n8, n9, n10, n11⟩ := cells12 RB
  have frRB := RB.free
  have ltRB := RB.lt
  go_wp2_with fail
  clear k0 k1 k2 k3 k4 k5 k6 k7 k8 k9 k10 k11 t0 t1 t2 t3 t4 m0 m1 m2 m3 m4 m5 m6 m7 m8 m9 m10 m11 n0 n1 n2 n3 n4 n5 n6 n7 n8 n9 n10 n11 frRB ltRB
  have H9 := two_of (show St w q b3 b4 [l0, l1, l2, l3, l4, l5, l6, l7, l8, l9, l10, l11] [en, l1, l2, l3, l4, pe, ca, a1_3, l8, l9, l10, l11] [le, l1, l2, l3, l4, pe, ca, a1_3, l8, l9, l10, l11] [.int .i64 a1_0, .int .i64 a1_1, .int .u64 a1_2, .int .u64 a1_3, .bool a1_4] w5 from ⟨RC1, RT1, RA, RB, GW⟩)
  unfold Two at H9
  clear RC1 RT1 RA RB GW
  go_region_held3 (fun w' => w'.cell? ⟨b3, 0, none⟩ = some (.int .u64 en) ∧ w'.cell? ⟨b3, 1, none⟩ = some (.int .u64 l1) ∧ w'.cell? ⟨b3, 2, none⟩ = some (.int .u64 l2) ∧ w'.cell? ⟨b3, 3, none⟩ = some (.int .u64 l3) ∧ w'.cell? ⟨b3, 4, none⟩ = some (.int .u64 l4) ∧ w'.cell? ⟨b3, 5, none⟩ = some (.int .u64 pe) ∧ w'.cell? ⟨b3, 6, none⟩ = some (.int .u64 ca) ∧ w'.cell? ⟨b3, 7, none⟩ = some (.int .u64 a1_3) ∧ w'.cell? ⟨b3, 8, none⟩ = some (.int .u64 l8) ∧ w'.cell? ⟨b3, 9, none⟩ = some (.int .u64 l9) ∧ w'.cell? ⟨b3, 10, none⟩ = some (.int .u64 l10) ∧ w'.cell? ⟨b3, 11, none⟩ = some (.int .u64 l11) ∧ w'.cell? ⟨b4, 0, none⟩ = some (.int .u64 le) ∧ w'.cell? ⟨b4, 1, none⟩ = some (.int .u64 l1) ∧ w'.cell? ⟨b4, 2, none⟩ = some (.int .u64 l2) ∧ w'.cell? ⟨b4, 3, none⟩ = some (.int .u64 l3) ∧ w'.cell? ⟨b4, 4, none⟩ = some (.int .u64 l4) ∧ w'.cell? ⟨b4, 5, none⟩ = some (.int .u64 pe) ∧ w'.cell? ⟨b4, 6, none⟩ = some (.int .u64 ca) ∧ w'.cell? ⟨b4, 7, none⟩ = some (.int .u64 a1_3) ∧ w'.cell? ⟨b4, 8, none⟩ = some (.int .u64 l8) ∧ w'.cell? ⟨b4, 9, none⟩ = some (.int .u64 l9) ∧ w'.cell? ⟨b4, 10, none⟩ = some (.int .u64 l10) ∧ w'.cell? ⟨b4, 11, none⟩ = some (.int .u64 l11) ∧ St w q b3 b4 [l0, l1, l2, l3, l4, l5, l6, l7, l8, l9, l10, l11] [en, l1, l2, l3, l4, pe, ca, a1_3, l8, l9, l10, l11] [le, l1, l2, l3, l4, pe, ca, a1_3, l8, l9, l10, l11] [.int .i64 a1_0, .int .i64 a1_1, .int .u64 a1_2, .int .u64 a1_3, .bool a1_4] w')
    (first | assumption | (exact Two.on (gr_drew (gr_refl _ none)) (by assumption)) | (exact Two.on (by assumption) (by assumption)))
    (first | (go_at_call 15; refine (LAB.out _ (by first | exact Or.inl rfl | exact Or.inr rfl) _).mono ?_; rintro e w' ⟨rfl, hg⟩))
  rename_i hHeld
  have SX := Two.st hHeld
  clear H9 hHeld LAB q1 q2
  obtain ⟨rc, rt, ra, rb, gx⟩ := SX
  have ne1 : b4 ≠ q := by omega
  have ne2 : b4 ≠ q + 1 := by omega
  have ne3 : b4 ≠ b3 := by omega
  have HB := Lib.hid (show w.heap.size ≤ b4 by have := HQ.out; omega)
  clear apb3RC1 apb3RT1 apb4RC1 apb4RT1 apb4RA
  have rb4 := (((rb.put 0 (.int .u64 l0)).put 5 (.int .u64 l5)).put 6 (.int .u64 l6)).put 7 (.int .u64 l7)
  have rc4 := (((rc.other ne1.symm (a := @Addr.mk b4 0 none) (.int .u64 l0)).other ne1.symm (a := @Addr.mk b4 5 none) (.int .u64 l5)).other ne1.symm (a := @Addr.mk b4 6 none) (.int .u64 l6)).other ne1.symm (a := @Addr.mk b4 7 none) (.int .u64 l7)
  have rt4 := (((rt.other ne2.symm (a := @Addr.mk b4 0 none) (.int .u64 l0)).other ne2.symm (a := @Addr.mk b4 5 none) (.int .u64 l5)).other ne2.symm (a := @Addr.mk b4 6 none) (.int .u64 l6)).other ne2.symm (a := @Addr.mk b4 7 none) (.int .u64 l7)
  have ra4 := (((ra.other ne3.symm (a := @Addr.mk b4 0 none) (.int .u64 l0)).other ne3.symm (a := @Addr.mk b4 5 none) (.int .u64 l5)).other ne3.symm (a := @Addr.mk b4 6 none) (.int .u64 l6)).other ne3.symm (a := @Addr.mk b4 7 none) (.int .u64 l7)
  have gb : w.grownBy ((((w'.setCell ⟨b4, 0, none⟩ (.int .u64 l0)).setCell ⟨b4, 5, none⟩ (.int .u64 l5)).setCell ⟨b4, 6, none⟩ (.int .u64 l6)).setCell ⟨b4, 7, none⟩ (.int .u64 l7)) none := gr_row (gr_set (gr_set (gr_set (gr_set (gr_none gx (some b4)) _) _) _) _) HB.out
  clear HQ HB
  obtain ⟨k0, k1, k2, k3, k4, k5, k6, k7, k8, k9, k10, k11⟩ := cells12 rc
  obtain ⟨n0, n1, n2, n3, n4, n5, n6, n7, n8, n9, n10, n11⟩ := cells12 rb
  have fr := rb.free
  have lt := rb.lt
  go_upto_region 15 with (fail)
  clear k0 k1 k2 k3 k4 k5 k6 k7 k8 k9 k10 k11 n0 n1 n2 n3 n4 n5 n6 n7 n8 n9 n10 n11 fr lt rc rt ra rb gx
  replace rb4 : Row ((((w'.setCell ⟨b4, 0, none⟩ (.int .u64 l0)).setCell ⟨b4, 5, none⟩ (.int .u64 l5)).setCell ⟨b4, 6, none⟩ (.int .u64 l6)).setCell ⟨b4, 7, none⟩ (.int .u64 l7)) b4 24 (lC [l0, l1, l2, l3, l4, l5, l6, l7, l8, l9, l10, l11]) := rb4
  generalize ((((w'.setCell ⟨b4, 0, none⟩ (.int .u64 l0)).setCell ⟨b4, 5, none⟩ (.int .u64 l5)).setCell ⟨b4, 6, none⟩ (.int .u64 l6)).setCell ⟨b4, 7, none⟩ (.int .u64 l7)) = U at *
  obtain ⟨k0, k1, k2, k3, k4, k5, k6, k7, k8, k9, k10, k11⟩ := cells12 rc4
  obtain ⟨n0, n1, n2, n3, n4, n5, n6, n7, n8, n9, n10, n11⟩ := cells12 rb4
  obtain ⟨t0, t1, t2, t3, t4⟩ := cells5 rt4
  have m7 : U.cell? ⟨b3, 7, none⟩ = some (.int .u64 a1_3) := ra4.cell 7
  have qs := fun W => eql_self l0 l1 l2 l3 l4 l5 l6 l7 l8 l9 l10 l11 W
  clear rc4 rt4 ra4 rb4
  go_wp2_with fail
  go_ret
  exact ⟨rfl, gr_below gb⟩

theorem own : ownKnob Tryd.prog.godebug = none := by kernel_rfl
theorem laidOut : laidOutB Tryd.prog = true := by kernel_rfl

set_option maxRecDepth 100000 in
theorem lifted (os : Os) (started : os.Started) (H : Type) (enc : TypeId × Value → H) :
    ReturnsInHanded {} Tryd.checked os 4 .any (fun w args => (Rows.trapBackSpec.pre enc Tryd.prog Tryd.f4 [] false w args ∧ laidMetH Tryd.prog laidL w) ∧ sizedMet enc Tryd.prog Tryd.f4 (OpenSpec.ofChange Rows.trapBackSpec) false w args)
      (Rows.trapBackSpec.post enc Tryd.prog Tryd.f4 false true false false) := by
  refine returnsInHanded_of_change_and (C := Tryd.checked) (X := fun w _ => laidMetH Tryd.prog laidL w) (fun _ _ _ hh h => h.of_heap hh) own started (by kernel_rfl) Tryd.func4
    (ChangeSpec.witness_shaped (enc := enc) (C := Tryd.checked) (os := os) (X := fun w _ => laidMetH Tryd.prog laidL w) false (World.doorLaid Tryd.prog 400 os) #[.agg #[.int .u64 0, .int .u64 0, .int .u64 0, .int .u64 0, .int .u64 0, .int .u64 0, .int .u64 0, .int .u64 0, .int .u64 0, .int .u64 0, .int .u64 0, .int .u64 0], .agg #[.int .i64 0, .int .i64 0, .int .u64 0, .int .u64 0, .bool false]] 8 rfl (World.shaped_of_RefB (by kernel_rfl) (by kernel_rfl)) (by kernel_rfl) (by kernel_rfl) (by kernel_rfl) (door_met os _)) ?_
  intro W base args ds gs before hval0 hW _ _ hL _
  have hval : ∀ (j : Nat) t v, Tryd.f4.params[j]? = some t → args[j]? = some v → Value.okWide Tryd.prog W .any base t v := hval0
  have hW' := hW
  obtain ⟨p, q, hA0, hV, rfl, hfz, hnd⟩ := hW
  have hA : DataW.TrodAll enc Tryd.prog W 0 (fun _ => true) true Tryd.f4.params.toList args.toList ds p := hA0
  rw [Tryd.params4] at hA hval
  obtain ⟨v0, vs0, d0, ds0, p0, q0, hargs, rfl, rfl, h0, r0⟩ := trodAll_cons hA
  obtain ⟨v1, vs1, d1, ds1, p1, q1, rfl, rfl, rfl, h1, r1⟩ := trodAll_cons r0
  obtain ⟨rfl, rfl, rfl⟩ := trodAll_nil r1
  obtain rfl : args = #[v0, v1] := by cases args; simp_all
  obtain ⟨rfl, rfl⟩ := trodVars_none hV
  clear hA0 hval0 hA
  have k0 := h0
  have lt0 : ∀ x ∈ p0, x.block < W.heap.size := by obtain ⟨m, hm⟩ := k0; exact DataW.trod_lt m _ _ _ hm
  obtain ⟨xs0, rfl, l0, m0, f0⟩ := Op.open_struct Tryd.underlying24 (hval 0 24 v0 rfl rfl) h0
  rw [show Tryd.prog.cellsOf 24 = 12 from by kernel_rfl] at l0
  obtain _ | ⟨c0_0, xs0⟩ := xs0
  · simp at l0
  obtain _ | ⟨c0_1, xs0⟩ := xs0
  · simp at l0
  obtain _ | ⟨c0_2, xs0⟩ := xs0
  · simp at l0
  obtain _ | ⟨c0_3, xs0⟩ := xs0
  · simp at l0
  obtain _ | ⟨c0_4, xs0⟩ := xs0
  · simp at l0
  obtain _ | ⟨c0_5, xs0⟩ := xs0
  · simp at l0
  obtain _ | ⟨c0_6, xs0⟩ := xs0
  · simp at l0
  obtain _ | ⟨c0_7, xs0⟩ := xs0
  · simp at l0
  obtain _ | ⟨c0_8, xs0⟩ := xs0
  · simp at l0
  obtain _ | ⟨c0_9, xs0⟩ := xs0
  · simp at l0
  obtain _ | ⟨c0_10, xs0⟩ := xs0
  · simp at l0
  obtain _ | ⟨c0_11, xs0⟩ := xs0
  · simp at l0
  obtain _ | ⟨_, _⟩ := xs0
  rotate_left
  · simp at l0
  clear h0
  obtain ⟨y0_0, g0_0⟩ := f0 0 _ rfl
  replace g0_0 : DataW.trod enc Tryd.prog W 0 (fun _ => true) true m0 22 [c0_0] = some y0_0 := g0_0
  obtain ⟨a0_0, e0_0, _, w0_0⟩ := DataW.trod_int Tryd.underlying22 g0_0
  simp at e0_0; subst e0_0
  obtain ⟨y0_1, g0_1⟩ := f0 1 _ rfl
  replace g0_1 : DataW.trod enc Tryd.prog W 0 (fun _ => true) true m0 22 [c0_1] = some y0_1 := g0_1
  obtain ⟨a0_1, e0_1, _, w0_1⟩ := DataW.trod_int Tryd.underlying22 g0_1
  simp at e0_1; subst e0_1
  obtain ⟨y0_2, g0_2⟩ := f0 2 _ rfl
  replace g0_2 : DataW.trod enc Tryd.prog W 0 (fun _ => true) true m0 22 [c0_2] = some y0_2 := g0_2
  obtain ⟨a0_2, e0_2, _, w0_2⟩ := DataW.trod_int Tryd.underlying22 g0_2
  simp at e0_2; subst e0_2
  obtain ⟨y0_3, g0_3⟩ := f0 3 _ rfl
  replace g0_3 : DataW.trod enc Tryd.prog W 0 (fun _ => true) true m0 22 [c0_3] = some y0_3 := g0_3
  obtain ⟨a0_3, e0_3, _, w0_3⟩ := DataW.trod_int Tryd.underlying22 g0_3
  simp at e0_3; subst e0_3
  obtain ⟨y0_4, g0_4⟩ := f0 4 _ rfl
  replace g0_4 : DataW.trod enc Tryd.prog W 0 (fun _ => true) true m0 22 [c0_4] = some y0_4 := g0_4
  obtain ⟨a0_4, e0_4, _, w0_4⟩ := DataW.trod_int Tryd.underlying22 g0_4
  simp at e0_4; subst e0_4
  obtain ⟨y0_5, g0_5⟩ := f0 5 _ rfl
  replace g0_5 : DataW.trod enc Tryd.prog W 0 (fun _ => true) true m0 22 [c0_5] = some y0_5 := g0_5
  obtain ⟨a0_5, e0_5, _, w0_5⟩ := DataW.trod_int Tryd.underlying22 g0_5
  simp at e0_5; subst e0_5
  obtain ⟨y0_6, g0_6⟩ := f0 6 _ rfl
  replace g0_6 : DataW.trod enc Tryd.prog W 0 (fun _ => true) true m0 22 [c0_6] = some y0_6 := g0_6
  obtain ⟨a0_6, e0_6, _, w0_6⟩ := DataW.trod_int Tryd.underlying22 g0_6
  simp at e0_6; subst e0_6
  obtain ⟨y0_7, g0_7⟩ := f0 7 _ rfl
  replace g0_7 : DataW.trod enc Tryd.prog W 0 (fun _ => true) true m0 22 [c0_7] = some y0_7 := g0_7
  obtain ⟨a0_7, e0_7, _, w0_7⟩ := DataW.trod_int Tryd.underlying22 g0_7
  simp at e0_7; subst e0_7
  obtain ⟨y0_8, g0_8⟩ := f0 8 _ rfl
  replace g0_8 : DataW.trod enc Tryd.prog W 0 (fun _ => true) true m0 22 [c0_8] = some y0_8 := g0_8
  obtain ⟨a0_8, e0_8, _, w0_8⟩ := DataW.trod_int Tryd.underlying22 g0_8
  simp at e0_8; subst e0_8
  obtain ⟨y0_9, g0_9⟩ := f0 9 _ rfl
  replace g0_9 : DataW.trod enc Tryd.prog W 0 (fun _ => true) true m0 22 [c0_9] = some y0_9 := g0_9
  obtain ⟨a0_9, e0_9, _, w0_9⟩ := DataW.trod_int Tryd.underlying22 g0_9
  simp at e0_9; subst e0_9
  obtain ⟨y0_10, g0_10⟩ := f0 10 _ rfl
  replace g0_10 : DataW.trod enc Tryd.prog W 0 (fun _ => true) true m0 22 [c0_10] = some y0_10 := g0_10
  obtain ⟨a0_10, e0_10, _, w0_10⟩ := DataW.trod_int Tryd.underlying22 g0_10
  simp at e0_10; subst e0_10
  obtain ⟨y0_11, g0_11⟩ := f0 11 _ rfl
  replace g0_11 : DataW.trod enc Tryd.prog W 0 (fun _ => true) true m0 22 [c0_11] = some y0_11 := g0_11
  obtain ⟨a0_11, e0_11, _, w0_11⟩ := DataW.trod_int Tryd.underlying22 g0_11
  simp at e0_11; subst e0_11
  have k1 := h1
  have lt1 : ∀ x ∈ p1, x.block < W.heap.size := by obtain ⟨m, hm⟩ := k1; exact DataW.trod_lt m _ _ _ hm
  obtain ⟨xs1, rfl, l1, m1, f1⟩ := Op.open_struct Tryd.underlying26 (hval 1 26 v1 rfl rfl) h1
  rw [show Tryd.prog.cellsOf 26 = 5 from by kernel_rfl] at l1
  obtain _ | ⟨c1_0, xs1⟩ := xs1
  · simp at l1
  obtain _ | ⟨c1_1, xs1⟩ := xs1
  · simp at l1
  obtain _ | ⟨c1_2, xs1⟩ := xs1
  · simp at l1
  obtain _ | ⟨c1_3, xs1⟩ := xs1
  · simp at l1
  obtain _ | ⟨c1_4, xs1⟩ := xs1
  · simp at l1
  obtain _ | ⟨_, _⟩ := xs1
  rotate_left
  · simp at l1
  clear h1
  obtain ⟨y1_0, g1_0⟩ := f1 0 _ rfl
  replace g1_0 : DataW.trod enc Tryd.prog W 0 (fun _ => true) true m1 3 [c1_0] = some y1_0 := g1_0
  obtain ⟨a1_0, e1_0, _, w1_0⟩ := DataW.trod_int Tryd.underlying3 g1_0
  simp at e1_0; subst e1_0
  obtain ⟨y1_1, g1_1⟩ := f1 1 _ rfl
  replace g1_1 : DataW.trod enc Tryd.prog W 0 (fun _ => true) true m1 3 [c1_1] = some y1_1 := g1_1
  obtain ⟨a1_1, e1_1, _, w1_1⟩ := DataW.trod_int Tryd.underlying3 g1_1
  simp at e1_1; subst e1_1
  obtain ⟨y1_2, g1_2⟩ := f1 2 _ rfl
  replace g1_2 : DataW.trod enc Tryd.prog W 0 (fun _ => true) true m1 22 [c1_2] = some y1_2 := g1_2
  obtain ⟨a1_2, e1_2, _, w1_2⟩ := DataW.trod_int Tryd.underlying22 g1_2
  simp at e1_2; subst e1_2
  obtain ⟨y1_3, g1_3⟩ := f1 3 _ rfl
  replace g1_3 : DataW.trod enc Tryd.prog W 0 (fun _ => true) true m1 22 [c1_3] = some y1_3 := g1_3
  obtain ⟨a1_3, e1_3, _, w1_3⟩ := DataW.trod_int Tryd.underlying22 g1_3
  simp at e1_3; subst e1_3
  obtain ⟨y1_4, g1_4⟩ := f1 4 _ rfl
  replace g1_4 : DataW.trod enc Tryd.prog W 0 (fun _ => true) true m1 4 [c1_4] = some y1_4 := g1_4
  obtain ⟨a1_4, e1_4, _⟩ := DataW.trod_bool Tryd.underlying4 g1_4
  simp at e1_4; subst e1_4
  refine (walk W (of_laid hL) a0_0 w0_0 a0_1 w0_1 a0_2 w0_2 a0_3 w0_3 a0_4 w0_4 a0_5 w0_5 a0_6 w0_6 a0_7 w0_7 a0_8 w0_8 a0_9 w0_9 a0_10 w0_10 a0_11 w0_11 a1_0 w1_0 a1_1 w1_1 a1_2 w1_2 a1_3 w1_3 a1_4).mono fun e W' ⟨he, bel⟩ => ?_
  subst he
  exact ⟨_, rfl, _, _, _, [], _, [], hW', trodAll_mk1 (shut_bool Tryd.underlying4 _), (trodAll_cons_mk (Below.trod laidOut (by kernel_rfl) (of_decide_eq_true (by kernel_rfl)) k0 bel lt0) (trodAll_cons_mk (Below.trod laidOut (by kernel_rfl) (of_decide_eq_true (by kernel_rfl)) k1 bel lt1) trodAll_mk0)), rfl, bel.frame _, fun h => by cases h⟩

theorem over : Rows.TrapBackSaid :=
  OpenClaim.holds_of_wide 4 Tryd.f4 rfl rfl rfl rfl rfl rfl rfl ⟨rfl, rfl, rfl, rfl, rfl⟩ rfl rfl rfl rfl rfl (by kernel_rfl) Tryd.func4 (by kernel_rfl)
    (of_decide_eq_true (by kernel_rfl)) (by unfold Func.isWrapper; first | (rw [if_pos (by decide +kernel)]; kernel_rfl) | (rw [if_neg (by decide +kernel)]; exact ⟨rfl, rfl⟩))
    (fun os started H enc _ => lifted os started H enc)

/-- The statement: the card, its listed variable tied to the program's text. -/
theorem proved : Rows.TrapBackCardSaid :=
  Claim7.holds_tied_plain_at .later [] [.data] true (true, "8e6e553f6c7ced0dfb6e7eaba441bf0be50b2fff110c9f9a613823ef96ea14d8") false
    over (fun _ h => by cases h) (by kernel_rfl) (fun _ h => by cases h) trapBack_row_tie rfl ⟨rfl, rfl⟩ (by kernel_rfl) rfl
    (fun f fn hf hfn => by
      obtain rfl : f = 4 := Option.some.inj ((show Tryd.prog.funcNamed "suzerain/suzerainlaw14.TrapBack" = some 4 by kernel_rfl).symm.trans hf) |>.symm
      obtain rfl : fn = Tryd.f4 := (Option.some.inj (Tryd.func4.symm.trans hfn)).symm
      exact ⟨by kernel_rfl, fun j t ht => by
        rw [Tryd.params4] at ht
        have hm : t ∈ [24, 26] := by simpa using Array.mem_of_getElem? ht
        have hall : ([24, 26].all fun u => !Tryd.prog.wantsStandIn u) = true := by kernel_rfl
        exact (show Tryd.prog.wantsStandIn t = false by simpa using List.all_eq_true.1 hall t hm)⟩)
    (by kernel_rfl)
#print axioms proved

end Go.Proofs.YtkfmcbhoendocaaDoor.trapBack
