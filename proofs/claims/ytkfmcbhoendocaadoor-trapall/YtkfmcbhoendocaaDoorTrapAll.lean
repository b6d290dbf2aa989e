/-
  Proved: for any registers and any trap, the law TrapAll returns true: what registers become by a trap, and on the way back, and which interrupt is taken, is as the document says.
  Conditions: none beyond the statement's own (its listed variable is tied to the program's text).
-/
import Derived.Test.YtkfmcbhoendocaaDoorRows
import Derived.Test.YtkfmcbhoendocaaDoorLayO
import Derived.Lib.Hide
import Derived.Deep.RegionHeld3
import Derived.Test.YtkfmcbhoendocaaDoorCards
import Derived.Test.YtkfmcbhoendocaaDoorTie
import Derived.SevenTiedAt
import Derived.Test.YtkfmcbhoendocaaDoorTrDoor
import Derived.Test.YtkfmcbhoendocaaDoorTrLw
import Derived.Test.YtkfmcbhoendocaaDoorTrW
import Derived.Test.YtkfmcbhoendocaaDoorTrL2
import Derived.Test.YtkfmcbhoendocaaDoorTrR2
namespace Go.Proofs.YtkfmcbhoendocaaDoor.trapAll
open Go Go.ChangeShapes Go.WideShapes Go.ChangeAt Go.RowKit W M D A C J
set_option linter.unusedVariables false

/-- What stands behind the calls. -/
structure St (w0 : World) (q b2 b3 b4 b5 : Nat) (c x y z m : Cs) (w : World) : Prop where
  rc : Row w q 24 (lC c)
  rx : Row w b2 24 (lC x)
  ry : Row w b3 24 (lC y)
  rz : Row w b4 24 (lC z)
  rm : Row w b5 24 (lC m)
  gr : w0.grownBy w none
theorem St.on {w0 w w' : World} {q b2 b3 b4 b5 : Nat} {c x y z m : Cs} (h : St w0 q b2 b3 b4 b5 c x y z m w) (hg : w.grownBy w' none) : St w0 q b2 b3 b4 b5 c x y z m w' :=
  ⟨h.rc.grown hg (by simp), h.rx.grown hg (by simp), h.ry.grown hg (by simp), h.rz.grown hg (by simp), h.rm.grown hg (by simp), gr_trans h.gr hg⟩
section
variable {w0 w w' : World} {q b2 b3 b4 b5 : Nat} {c0 c1 c2 c3 c4 c5 c6 c7 c8 c9 c10 c11 x0 x1 x2 x3 x4 x5 x6 x7 x8 x9 x10 x11 y0 y1 y2 y3 y4 y5 y6 y7 y8 y9 y10 y11 z0 z1 z2 z3 z4 z5 z6 z7 z8 z9 z10 z11 m0 m1 m2 m3 m4 m5 m6 m7 m8 m9 m10 m11 : Int}
def Big (w0 : World) (q b2 b3 b4 b5 : Nat) (c0 c1 c2 c3 c4 c5 c6 c7 c8 c9 c10 c11 x0 x1 x2 x3 x4 x5 x6 x7 x8 x9 x10 x11 y0 y1 y2 y3 y4 y5 y6 y7 y8 y9 y10 y11 z0 z1 z2 z3 z4 z5 z6 z7 z8 z9 z10 z11 m0 m1 m2 m3 m4 m5 m6 m7 m8 m9 m10 m11 : Int) (w : World) : Prop :=
  w.cell? ⟨q, 0, none⟩ = some (.int .u64 c0) ∧ w.cell? ⟨q, 1, none⟩ = some (.int .u64 c1) ∧ w.cell? ⟨q, 2, none⟩ = some (.int .u64 c2) ∧ w.cell? ⟨q, 3, none⟩ = some (.int .u64 c3) ∧ w.cell? ⟨q, 4, none⟩ = some (.int .u64 c4) ∧ w.cell? ⟨q, 5, none⟩ = some (.int .u64 c5) ∧ w.cell? ⟨q, 6, none⟩ = some (.int .u64 c6) ∧ w.cell? ⟨q, 7, none⟩ = some (.int .u64 c7) ∧ w.cell? ⟨q, 8, none⟩ = some (.int .u64 c8) ∧ w.cell? ⟨q, 9, none⟩ = some (.int .u64 c9) ∧ w.cell? ⟨q, 10, none⟩ = some (.int .u64 c10) ∧ w.cell? ⟨q, 11, none⟩ = some (.int .u64 c11) ∧ w.cell? ⟨b2, 0, none⟩ = some (.int .u64 x0) ∧ w.cell? ⟨b2, 1, none⟩ = some (.int .u64 x1) ∧ w.cell? ⟨b2, 2, none⟩ = some (.int .u64 x2) ∧ w.cell? ⟨b2, 3, none⟩ = some (.int .u64 x3) ∧ w.cell? ⟨b2, 4, none⟩ = some (.int .u64 x4) ∧ w.cell? ⟨b2, 5, none⟩ = some (.int .u64 x5) ∧ w.cell? ⟨b2, 6, none⟩ = some (.int .u64 x6) ∧ w.cell? ⟨b2, 7, none⟩ = some (.int .u64 x7) ∧ w.cell? ⟨b2, 8, none⟩ = some (.int .u64 x8) ∧ w.cell? ⟨b2, 9, none⟩ = some (.int .u64 x9) ∧ w.cell? ⟨b2, 10, none⟩ = some (.int .u64 x10) ∧ w.cell? ⟨b2, 11, none⟩ = some (.int .u64 x11) ∧ w.cell? ⟨b3, 0, none⟩ = some (.int .u64 y0) ∧ w.cell? ⟨b3, 1, none⟩ = some (.int .u64 y1) ∧ w.cell? ⟨b3, 2, none⟩ = some (.int .u64 y2) ∧ w.cell? ⟨b3, 3, none⟩ = some (.int .u64 y3) ∧ w.cell? ⟨b3, 4, none⟩ = some (.int .u64 y4) ∧ w.cell? ⟨b3, 5, none⟩ = some (.int .u64 y5) ∧ w.cell? ⟨b3, 6, none⟩ = some (.int .u64 y6) ∧ w.cell? ⟨b3, 7, none⟩ = some (.int .u64 y7) ∧ w.cell? ⟨b3, 8, none⟩ = some (.int .u64 y8) ∧ w.cell? ⟨b3, 9, none⟩ = some (.int .u64 y9) ∧ w.cell? ⟨b3, 10, none⟩ = some (.int .u64 y10) ∧ w.cell? ⟨b3, 11, none⟩ = some (.int .u64 y11) ∧ w.cell? ⟨b4, 0, none⟩ = some (.int .u64 z0) ∧ w.cell? ⟨b4, 1, none⟩ = some (.int .u64 z1) ∧ w.cell? ⟨b4, 2, none⟩ = some (.int .u64 z2) ∧ w.cell? ⟨b4, 3, none⟩ = some (.int .u64 z3) ∧ w.cell? ⟨b4, 4, none⟩ = some (.int .u64 z4) ∧ w.cell? ⟨b4, 5, none⟩ = some (.int .u64 z5) ∧ w.cell? ⟨b4, 6, none⟩ = some (.int .u64 z6) ∧ w.cell? ⟨b4, 7, none⟩ = some (.int .u64 z7) ∧ w.cell? ⟨b4, 8, none⟩ = some (.int .u64 z8) ∧ w.cell? ⟨b4, 9, none⟩ = some (.int .u64 z9) ∧ w.cell? ⟨b4, 10, none⟩ = some (.int .u64 z10) ∧ w.cell? ⟨b4, 11, none⟩ = some (.int .u64 z11) ∧ w.cell? ⟨b5, 0, none⟩ = some (.int .u64 m0) ∧ w.cell? ⟨b5, 1, none⟩ = some (.int .u64 m1) ∧ w.cell? ⟨b5, 2, none⟩ = some (.int .u64 m2) ∧ w.cell? ⟨b5, 3, none⟩ = some (.int .u64 m3) ∧ w.cell? ⟨b5, 4, none⟩ = some (.int .u64 m4) ∧ w.cell? ⟨b5, 5, none⟩ = some (.int .u64 m5) ∧ w.cell? ⟨b5, 6, none⟩ = some (.int .u64 m6) ∧ w.cell? ⟨b5, 7, none⟩ = some (.int .u64 m7) ∧ w.cell? ⟨b5, 8, none⟩ = some (.int .u64 m8) ∧ w.cell? ⟨b5, 9, none⟩ = some (.int .u64 m9) ∧ w.cell? ⟨b5, 10, none⟩ = some (.int .u64 m10) ∧ w.cell? ⟨b5, 11, none⟩ = some (.int .u64 m11) ∧ St w0 q b2 b3 b4 b5 [c0, c1, c2, c3, c4, c5, c6, c7, c8, c9, c10, c11] [x0, x1, x2, x3, x4, x5, x6, x7, x8, x9, x10, x11] [y0, y1, y2, y3, y4, y5, y6, y7, y8, y9, y10, y11] [z0, z1, z2, z3, z4, z5, z6, z7, z8, z9, z10, z11] [m0, m1, m2, m3, m4, m5, m6, m7, m8, m9, m10, m11] w
theorem big_of (h : St w0 q b2 b3 b4 b5 [c0, c1, c2, c3, c4, c5, c6, c7, c8, c9, c10, c11] [x0, x1, x2, x3, x4, x5, x6, x7, x8, x9, x10, x11] [y0, y1, y2, y3, y4, y5, y6, y7, y8, y9, y10, y11] [z0, z1, z2, z3, z4, z5, z6, z7, z8, z9, z10, z11] [m0, m1, m2, m3, m4, m5, m6, m7, m8, m9, m10, m11] w) : Big w0 q b2 b3 b4 b5 c0 c1 c2 c3 c4 c5 c6 c7 c8 c9 c10 c11 x0 x1 x2 x3 x4 x5 x6 x7 x8 x9 x10 x11 y0 y1 y2 y3 y4 y5 y6 y7 y8 y9 y10 y11 z0 z1 z2 z3 z4 z5 z6 z7 z8 z9 z10 z11 m0 m1 m2 m3 m4 m5 m6 m7 m8 m9 m10 m11 w :=
  ⟨h.rc.cell 0, h.rc.cell 1, h.rc.cell 2, h.rc.cell 3, h.rc.cell 4, h.rc.cell 5, h.rc.cell 6, h.rc.cell 7, h.rc.cell 8, h.rc.cell 9, h.rc.cell 10, h.rc.cell 11, h.rx.cell 0, h.rx.cell 1, h.rx.cell 2, h.rx.cell 3, h.rx.cell 4, h.rx.cell 5, h.rx.cell 6, h.rx.cell 7, h.rx.cell 8, h.rx.cell 9, h.rx.cell 10, h.rx.cell 11, h.ry.cell 0, h.ry.cell 1, h.ry.cell 2, h.ry.cell 3, h.ry.cell 4, h.ry.cell 5, h.ry.cell 6, h.ry.cell 7, h.ry.cell 8, h.ry.cell 9, h.ry.cell 10, h.ry.cell 11, h.rz.cell 0, h.rz.cell 1, h.rz.cell 2, h.rz.cell 3, h.rz.cell 4, h.rz.cell 5, h.rz.cell 6, h.rz.cell 7, h.rz.cell 8, h.rz.cell 9, h.rz.cell 10, h.rz.cell 11, h.rm.cell 0, h.rm.cell 1, h.rm.cell 2, h.rm.cell 3, h.rm.cell 4, h.rm.cell 5, h.rm.cell 6, h.rm.cell 7, h.rm.cell 8, h.rm.cell 9, h.rm.cell 10, h.rm.cell 11, h⟩
theorem Big.st (h : Big w0 q b2 b3 b4 b5 c0 c1 c2 c3 c4 c5 c6 c7 c8 c9 c10 c11 x0 x1 x2 x3 x4 x5 x6 x7 x8 x9 x10 x11 y0 y1 y2 y3 y4 y5 y6 y7 y8 y9 y10 y11 z0 z1 z2 z3 z4 z5 z6 z7 z8 z9 z10 z11 m0 m1 m2 m3 m4 m5 m6 m7 m8 m9 m10 m11 w) : St w0 q b2 b3 b4 b5 [c0, c1, c2, c3, c4, c5, c6, c7, c8, c9, c10, c11] [x0, x1, x2, x3, x4, x5, x6, x7, x8, x9, x10, x11] [y0, y1, y2, y3, y4, y5, y6, y7, y8, y9, y10, y11] [z0, z1, z2, z3, z4, z5, z6, z7, z8, z9, z10, z11] [m0, m1, m2, m3, m4, m5, m6, m7, m8, m9, m10, m11] w := h.2.2.2.2.2.2.2.2.2.2.2.2.2.2.2.2.2.2.2.2.2.2.2.2.2.2.2.2.2.2.2.2.2.2.2.2.2.2.2.2.2.2.2.2.2.2.2.2.2.2.2.2.2.2.2.2.2.2.2.2
theorem Big.on (hg : w.grownBy w' none) (h : Big w0 q b2 b3 b4 b5 c0 c1 c2 c3 c4 c5 c6 c7 c8 c9 c10 c11 x0 x1 x2 x3 x4 x5 x6 x7 x8 x9 x10 x11 y0 y1 y2 y3 y4 y5 y6 y7 y8 y9 y10 y11 z0 z1 z2 z3 z4 z5 z6 z7 z8 z9 z10 z11 m0 m1 m2 m3 m4 m5 m6 m7 m8 m9 m10 m11 w) : Big w0 q b2 b3 b4 b5 c0 c1 c2 c3 c4 c5 c6 c7 c8 c9 c10 c11 x0 x1 x2 x3 x4 x5 x6 x7 x8 x9 x10 x11 y0 y1 y2 y3 y4 y5 y6 y7 y8 y9 y10 y11 z0 z1 z2 z3 z4 z5 z6 z7 z8 z9 z10 z11 m0 m1 m2 m3 m4 m5 m6 m7 m8 m9 m10 m11 w' := big_of (h.st.on hg)
end
set_option maxRecDepth 100000 in
set_option maxHeartbeats 40000000 in
theorem walk (w : World) (hL : Ints w) (a0_0 : Int) (w0_0 : (Lit.int .u64 a0_0).wf = true) (a0_1 : Int) (w0_1 : (Lit.int .u64 a0_1).wf = true) (a0_2 : Int) (w0_2 : (Lit.int .u64 a0_2).wf = true) (a0_3 : Int) (w0_3 : (Lit.int .u64 a0_3).wf = true) (a0_4 : Int) (w0_4 : (Lit.int .u64 a0_4).wf = true) (a0_5 : Int) (w0_5 : (Lit.int .u64 a0_5).wf = true) (a0_6 : Int) (w0_6 : (Lit.int .u64 a0_6).wf = true) (a0_7 : Int) (w0_7 : (Lit.int .u64 a0_7).wf = true) (a0_8 : Int) (w0_8 : (Lit.int .u64 a0_8).wf = true) (a0_9 : Int) (w0_9 : (Lit.int .u64 a0_9).wf = true) (a0_10 : Int) (w0_10 : (Lit.int .u64 a0_10).wf = true) (a0_11 : Int) (w0_11 : (Lit.int .u64 a0_11).wf = true) (a1_0 : Int) (w1_0 : (Lit.int .i64 a1_0).wf = true) (a1_1 : Int) (w1_1 : (Lit.int .i64 a1_1).wf = true) (a1_2 : Int) (w1_2 : (Lit.int .u64 a1_2).wf = true) (a1_3 : Int) (w1_3 : (Lit.int .u64 a1_3).wf = true) (a1_4 : Bool) :
    Calls Tryd.prog 3 #[.agg #[.int .u64 a0_0, .int .u64 a0_1, .int .u64 a0_2, .int .u64 a0_3, .int .u64 a0_4, .int .u64 a0_5, .int .u64 a0_6, .int .u64 a0_7, .int .u64 a0_8, .int .u64 a0_9, .int .u64 a0_10, .int .u64 a0_11], .agg #[.int .i64 a1_0, .int .i64 a1_1, .int .u64 a1_2, .int .u64 a1_3, .bool a1_4]] w fun e w' => e = .returned (.bool true) ∧ Below w.heap.size w w' := by
  have hc : C.Good [a0_0, a0_1, a0_2, a0_3, a0_4, a0_5, a0_6, a0_7, a0_8, a0_9, a0_10, a0_11] := good12 (bounds_u64 w0_0) (bounds_u64 w0_1) (bounds_u64 w0_2) (bounds_u64 w0_3) (bounds_u64 w0_4) (bounds_u64 w0_5) (bounds_u64 w0_6) (bounds_u64 w0_7) (bounds_u64 w0_8) (bounds_u64 w0_9) (bounds_u64 w0_10) (bounds_u64 w0_11)
  have hp := bounds_i64 w1_0
  have hk := bounds_i64 w1_1
  have hpc : B64 a1_2 := bounds_u64 w1_2
  have hv : B64 a1_3 := bounds_u64 w1_3
  have RC := Lib.hid ((Row.fresh w 24 (lC [a0_0, a0_1, a0_2, a0_3, a0_4, a0_5, a0_6, a0_7, a0_8, a0_9, a0_10, a0_11])).alloc (.cells #[.int .i64 a1_0, .int .i64 a1_1, .int .u64 a1_2, .int .u64 a1_3, .bool a1_4] 26))
  have RT := Lib.hid (freshB w (.cells (lC [a0_0, a0_1, a0_2, a0_3, a0_4, a0_5, a0_6, a0_7, a0_8, a0_9, a0_10, a0_11]).toArray 24) 26 [.int .i64 a1_0, .int .i64 a1_1, .int .u64 a1_2, .int .u64 a1_3, .bool a1_4])
  have G0 := Lib.hid (gr_alloc (gr_alloc (gr_refl w none) (.cells (lC [a0_0, a0_1, a0_2, a0_3, a0_4, a0_5, a0_6, a0_7, a0_8, a0_9, a0_10, a0_11]).toArray 24)) (.cells #[.int .i64 a1_0, .int .i64 a1_1, .int .u64 a1_2, .int .u64 a1_3, .bool a1_4] 26))
  have B1 := Lib.hid (fun W => back12 hc W)
  have B2 := Lib.hid (fun W => rback12 hc W)
  have E1 := Lib.hid (fun W => enter12 hc a1_0 a1_2 a1_4 a1_1 a1_3 hp hpc hk hv W)
  have E2 := Lib.hid (fun W => renter12 hc a1_0 a1_2 a1_4 a1_1 a1_3 hp hpc hk hv W)
  have P1 := Lib.hid (fun W (h : w.grownBy W none) => Pending_c _ hc a1_0 hp W (hL.grown h))
  have P2 := Lib.hid (fun W => rPending_c _ hc a1_0 hp W)
  have K1 := Lib.hid (fun W (h : w.grownBy W none) => Wakes_c _ hc W (hL.grown h))
  have K2 := Lib.hid (fun W => rWakes_c _ hc W)
  unfold vI at P1 P2
  simp only [vC_12] at P1 P2 K1 K2
  generalize takeV (gC [a0_0, a0_1, a0_2, a0_3, a0_4, a0_5, a0_6, a0_7, a0_8, a0_9, a0_10, a0_11] 0) (bothV [a0_0, a0_1, a0_2, a0_3, a0_4, a0_5, a0_6, a0_7, a0_8, a0_9, a0_10, a0_11]) a1_0 = kv at *
  generalize takesV (gC [a0_0, a0_1, a0_2, a0_3, a0_4, a0_5, a0_6, a0_7, a0_8, a0_9, a0_10, a0_11] 0) (bothV [a0_0, a0_1, a0_2, a0_3, a0_4, a0_5, a0_6, a0_7, a0_8, a0_9, a0_10, a0_11]) a1_0 = kb at *
  generalize anyV (bothV [a0_0, a0_1, a0_2, a0_3, a0_4, a0_5, a0_6, a0_7, a0_8, a0_9, a0_10, a0_11]) = wb at *
  have h5 : B64 a0_5 := hc.get 5
  have mm1 : (kb == kb) = true := by simp
  have mm2 : (wb == wb) = true := by simp
  clear hc hL
  generalize leftV a0_0 = xd at *
  generalize privV a0_0 = p0 at *
  generalize entV a0_0 a1_0 = xa at *
  generalize epcV a1_2 = pe at *
  generalize causeV a1_4 a1_1 = ca at *
  generalize handV a0_2 a1_4 a1_1 = ha at *
  have qs1 := fun W => eql_self xa a0_1 a0_2 a0_3 a0_4 pe ca a1_3 a0_8 a0_9 a0_10 a0_11 W
  have qs2 := fun W => eql_self xd a0_1 a0_2 a0_3 a0_4 a0_5 a0_6 a0_7 a0_8 a0_9 a0_10 a0_11 W
  unfold B64 at h5 hpc hv
  clear w0_0 w0_1 w0_2 w0_3 w0_4 w0_5 w0_6 w0_7 w0_8 w0_9 w0_10 w0_11 w1_0 w1_1 w1_2 w1_3
  go_enter Tryd.func3, Tryd.ntmps3
  go_wp2_with fail
  refine (shown14_c _).mono ?_
  rintro e w1 ⟨rfl, hG⟩
  have RC1 := Row.grown RC.out hG (by simp)
  have RT1 := Row.grown RT.out hG (by simp)
  have GW := gr_trans G0.out hG
  clear RC RT G0 hG
  obtain ⟨q, hq⟩ : ∃ q, w.heap.size = q := ⟨_, rfl⟩
  rw [hq] at RC1 RT1 ⊢
  have HQ := Lib.hid (show w.heap.size ≤ q by omega)
  clear hq
  obtain ⟨k0, k1, k2, k3, k4, k5, k6, k7, k8, k9, k10, k11⟩ := cells12 RC1
  obtain ⟨t0, t1, t2, t3, t4⟩ := cells5 RT1
  go_wp2_with fail
  refine (E1.out _).mono ?_
  rintro e w2 ⟨rfl, hG⟩
  clear k0 k1 k2 k3 k4 k5 k6 k7 k8 k9 k10 k11 t0 t1 t2 t3 t4
  replace RC1 := Row.grown RC1 hG (by simp)
  replace RT1 := Row.grown RT1 hG (by simp)
  replace GW := gr_trans GW hG
  clear hG
  have RA : Row (w2.alloc (.cells #[.int .u64 xa, .int .u64 a0_1, .int .u64 a0_2, .int .u64 a0_3, .int .u64 a0_4, .int .u64 pe, .int .u64 ca, .int .u64 a1_3, .int .u64 a0_8, .int .u64 a0_9, .int .u64 a0_10, .int .u64 a0_11] 24)) w2.heap.size 24 (lC [xa, a0_1, a0_2, a0_3, a0_4, pe, ca, a1_3, a0_8, a0_9, a0_10, a0_11]) := Row.fresh w2 24 (lC [xa, a0_1, a0_2, a0_3, a0_4, pe, ca, a1_3, a0_8, a0_9, a0_10, a0_11])
  have apb2RC1 := RC1.lt
  have apb2RT1 := RT1.lt
  replace RC1 := Row.alloc RC1 (.cells #[.int .u64 xa, .int .u64 a0_1, .int .u64 a0_2, .int .u64 a0_3, .int .u64 a0_4, .int .u64 pe, .int .u64 ca, .int .u64 a1_3, .int .u64 a0_8, .int .u64 a0_9, .int .u64 a0_10, .int .u64 a0_11] 24)
  replace RT1 := Row.alloc RT1 (.cells #[.int .u64 xa, .int .u64 a0_1, .int .u64 a0_2, .int .u64 a0_3, .int .u64 a0_4, .int .u64 pe, .int .u64 ca, .int .u64 a1_3, .int .u64 a0_8, .int .u64 a0_9, .int .u64 a0_10, .int .u64 a0_11] 24)
  replace GW := gr_alloc GW (.cells #[.int .u64 xa, .int .u64 a0_1, .int .u64 a0_2, .int .u64 a0_3, .int .u64 a0_4, .int .u64 pe, .int .u64 ca, .int .u64 a1_3, .int .u64 a0_8, .int .u64 a0_9, .int .u64 a0_10, .int .u64 a0_11] 24)
  clear apb2RC1 apb2RT1
  obtain ⟨k0, k1, k2, k3, k4, k5, k6, k7, k8, k9, k10, k11⟩ := cells12 RC1
  obtain ⟨t0, t1, t2, t3, t4⟩ := cells5 RT1
  obtain ⟨x0, x1, x2, x3, x4, x5, x6, x7, x8, x9, x10, x11⟩ := cells12 RA
  go_wp2_with fail
  generalize w2.alloc (.cells #[.int .u64 xa, .int .u64 a0_1, .int .u64 a0_2, .int .u64 a0_3, .int .u64 a0_4, .int .u64 pe, .int .u64 ca, .int .u64 a1_3, .int .u64 a0_8, .int .u64 a0_9, .int .u64 a0_10, .int .u64 a0_11] 24) = Vb2 at *
  generalize w2.heap.size = b2 at *
  refine (E2.out _).mono ?_
  rintro e w3 ⟨rfl, hG⟩
  clear k0 k1 k2 k3 k4 k5 k6 k7 k8 k9 k10 k11 t0 t1 t2 t3 t4 x0 x1 x2 x3 x4 x5 x6 x7 x8 x9 x10 x11
  replace RC1 := Row.grown RC1 hG (by simp)
  replace RT1 := Row.grown RT1 hG (by simp)
  replace RA := Row.grown RA hG (by simp)
  replace GW := gr_trans GW hG
  clear hG
  have RB : Row (w3.alloc (.cells #[.int .u64 xa, .int .u64 a0_1, .int .u64 a0_2, .int .u64 a0_3, .int .u64 a0_4, .int .u64 pe, .int .u64 ca, .int .u64 a1_3, .int .u64 a0_8, .int .u64 a0_9, .int .u64 a0_10, .int .u64 a0_11] 24)) w3.heap.size 24 (lC [xa, a0_1, a0_2, a0_3, a0_4, pe, ca, a1_3, a0_8, a0_9, a0_10, a0_11]) := Row.fresh w3 24 (lC [xa, a0_1, a0_2, a0_3, a0_4, pe, ca, a1_3, a0_8, a0_9, a0_10, a0_11])
  have apb3RC1 := RC1.lt
  have apb3RT1 := RT1.lt
  have apb3RA := RA.lt
  replace RC1 := Row.alloc RC1 (.cells #[.int .u64 xa, .int .u64 a0_1, .int .u64 a0_2, .int .u64 a0_3, .int .u64 a0_4, .int .u64 pe, .int .u64 ca, .int .u64 a1_3, .int .u64 a0_8, .int .u64 a0_9, .int .u64 a0_10, .int .u64 a0_11] 24)
  replace RT1 := Row.alloc RT1 (.cells #[.int .u64 xa, .int .u64 a0_1, .int .u64 a0_2, .int .u64 a0_3, .int .u64 a0_4, .int .u64 pe, .int .u64 ca, .int .u64 a1_3, .int .u64 a0_8, .int .u64 a0_9, .int .u64 a0_10, .int .u64 a0_11] 24)
  replace RA := Row.alloc RA (.cells #[.int .u64 xa, .int .u64 a0_1, .int .u64 a0_2, .int .u64 a0_3, .int .u64 a0_4, .int .u64 pe, .int .u64 ca, .int .u64 a1_3, .int .u64 a0_8, .int .u64 a0_9, .int .u64 a0_10, .int .u64 a0_11] 24)
  replace GW := gr_alloc GW (.cells #[.int .u64 xa, .int .u64 a0_1, .int .u64 a0_2, .int .u64 a0_3, .int .u64 a0_4, .int .u64 pe, .int .u64 ca, .int .u64 a1_3, .int .u64 a0_8, .int .u64 a0_9, .int .u64 a0_10, .int .u64 a0_11] 24)
  clear apb3RC1 apb3RT1 apb3RA
  obtain ⟨k0, k1, k2, k3, k4, k5, k6, k7, k8, k9, k10, k11⟩ := cells12 RC1
  obtain ⟨t0, t1, t2, t3, t4⟩ := cells5 RT1
  obtain ⟨x0, x1, x2, x3, x4, x5, x6, x7, x8, x9, x10, x11⟩ := cells12 RA
  obtain ⟨y0, y1, y2, y3, y4, y5, y6, y7, y8, y9, y10, y11⟩ := cells12 RB
  go_wp2_with fail
  generalize w3.alloc (.cells #[.int .u64 xa, .int .u64 a0_1, .int .u64 a0_2, .int .u64 a0_3, .int .u64 a0_4, .int .u64 pe, .int .u64 ca, .int .u64 a1_3, .int .u64 a0_8, .int .u64 a0_9, .int .u64 a0_10, .int .u64 a0_11] 24) = Vb3 at *
  generalize w3.heap.size = b3 at *
  refine (B1.out _).mono ?_
  rintro e w4 ⟨rfl, hG⟩
  clear k0 k1 k2 k3 k4 k5 k6 k7 k8 k9 k10 k11 t0 t1 t2 t3 t4 x0 x1 x2 x3 x4 x5 x6 x7 x8 x9 x10 x11 y0 y1 y2 y3 y4 y5 y6 y7 y8 y9 y10 y11
  replace RC1 := Row.grown RC1 hG (by simp)
  replace RT1 := Row.grown RT1 hG (by simp)
  replace RA := Row.grown RA hG (by simp)
  replace RB := Row.grown RB hG (by simp)
  replace GW := gr_trans GW hG
  clear hG
  have RD : Row (w4.alloc (.cells #[.int .u64 xd, .int .u64 a0_1, .int .u64 a0_2, .int .u64 a0_3, .int .u64 a0_4, .int .u64 a0_5, .int .u64 a0_6, .int .u64 a0_7, .int .u64 a0_8, .int .u64 a0_9, .int .u64 a0_10, .int .u64 a0_11] 24)) w4.heap.size 24 (lC [xd, a0_1, a0_2, a0_3, a0_4, a0_5, a0_6, a0_7, a0_8, a0_9, a0_10, a0_11]) := Row.fresh w4 24 (lC [xd, a0_1, a0_2, a0_3, a0_4, a0_5, a0_6, a0_7, a0_8, a0_9, a0_10, a0_11])
  have apb4RC1 := RC1.lt
  have apb4RT1 := RT1.lt
  have apb4RA := RA.lt
  have apb4RB := RB.lt
  replace RC1 := Row.alloc RC1 (.cells #[.int .u64 xd, .int .u64 a0_1, .int .u64 a0_2, .int .u64 a0_3, .int .u64 a0_4, .int .u64 a0_5, .int .u64 a0_6, .int .u64 a0_7, .int .u64 a0_8, .int .u64 a0_9, .int .u64 a0_10, .int .u64 a0_11] 24)
  replace RT1 := Row.alloc RT1 (.cells #[.int .u64 xd, .int .u64 a0_1, .int .u64 a0_2, .int .u64 a0_3, .int .u64 a0_4, .int .u64 a0_5, .int .u64 a0_6, .int .u64 a0_7, .int .u64 a0_8, .int .u64 a0_9, .int .u64 a0_10, .int .u64 a0_11] 24)
  replace RA := Row.alloc RA (.cells #[.int .u64 xd, .int .u64 a0_1, .int .u64 a0_2, .int .u64 a0_3, .int .u64 a0_4, .int .u64 a0_5, .int .u64 a0_6, .int .u64 a0_7, .int .u64 a0_8, .int .u64 a0_9, .int .u64 a0_10, .int .u64 a0_11] 24)
  replace RB := Row.alloc RB (.cells #[.int .u64 xd, .int .u64 a0_1, .int .u64 a0_2, .int .u64 a0_3, .int .u64 a0_4, .int .u64 a0_5, .int .u64 a0_6, .int .u64 a0_7, .int .u64 a0_8, .int .u64 a0_9, .int .u64 a0_10, .int .u64 a0_11] 24)
  replace GW := gr_alloc GW (.cells #[.int .u64 xd, .int .u64 a0_1, .int .u64 a0_2, .int .u64 a0_3, .int .u64 a0_4, .int .u64 a0_5, .int .u64 a0_6, .int .u64 a0_7, .int .u64 a0_8, .int .u64 a0_9, .int .u64 a0_10, .int .u64 a0_11] 24)
  clear apb4RC1 apb4RT1 apb4RA apb4RB
  obtain ⟨k0, k1, k2, k3, k4, k5, k6, k7, k8, k9, k10, k11⟩ := cells12 RC1
  obtain ⟨t0, t1, t2, t3, t4⟩ := cells5 RT1
  obtain ⟨x0, x1, x2, x3, x4, x5, x6, x7, x8, x9, x10, x11⟩ := cells12 RA
  obtain ⟨y0, y1, y2, y3, y4, y5, y6, y7, y8, y9, y10, y11⟩ := cells12 RB
  obtain ⟨z0, z1, z2, z3, z4, z5, z6, z7, z8, z9, z10, z11⟩ := cells12 RD
  go_wp2_with fail
  generalize w4.alloc (.cells #[.int .u64 xd, .int .u64 a0_1, .int .u64 a0_2, .int .u64 a0_3, .int .u64 a0_4, .int .u64 a0_5, .int .u64 a0_6, .int .u64 a0_7, .int .u64 a0_8, .int .u64 a0_9, .int .u64 a0_10, .int .u64 a0_11] 24) = Vb4 at *
  generalize w4.heap.size = b4 at *
  refine (B2.out _).mono ?_
  rintro e w5 ⟨rfl, hG⟩
  clear k0 k1 k2 k3 k4 k5 k6 k7 k8 k9 k10 k11 t0 t1 t2 t3 t4 x0 x1 x2 x3 x4 x5 x6 x7 x8 x9 x10 x11 y0 y1 y2 y3 y4 y5 y6 y7 y8 y9 y10 y11 z0 z1 z2 z3 z4 z5 z6 z7 z8 z9 z10 z11
  replace RC1 := Row.grown RC1 hG (by simp)
  replace RT1 := Row.grown RT1 hG (by simp)
  replace RA := Row.grown RA hG (by simp)
  replace RB := Row.grown RB hG (by simp)
  replace RD := Row.grown RD hG (by simp)
  replace GW := gr_trans GW hG
  clear hG
  have RE : Row (w5.alloc (.cells #[.int .u64 xd, .int .u64 a0_1, .int .u64 a0_2, .int .u64 a0_3, .int .u64 a0_4, .int .u64 a0_5, .int .u64 a0_6, .int .u64 a0_7, .int .u64 a0_8, .int .u64 a0_9, .int .u64 a0_10, .int .u64 a0_11] 24)) w5.heap.size 24 (lC [xd, a0_1, a0_2, a0_3, a0_4, a0_5, a0_6, a0_7, a0_8, a0_9, a0_10, a0_11]) := Row.fresh w5 24 (lC [xd, a0_1, a0_2, a0_3, a0_4, a0_5, a0_6, a0_7, a0_8, a0_9, a0_10, a0_11])
  have apb5RC1 := RC1.lt
  have apb5RT1 := RT1.lt
  have apb5RA := RA.lt
  have apb5RB := RB.lt
  have apb5RD := RD.lt
  replace RC1 := Row.alloc RC1 (.cells #[.int .u64 xd, .int .u64 a0_1, .int .u64 a0_2, .int .u64 a0_3, .int .u64 a0_4, .int .u64 a0_5, .int .u64 a0_6, .int .u64 a0_7, .int .u64 a0_8, .int .u64 a0_9, .int .u64 a0_10, .int .u64 a0_11] 24)
  replace RT1 := Row.alloc RT1 (.cells #[.int .u64 xd, .int .u64 a0_1, .int .u64 a0_2, .int .u64 a0_3, .int .u64 a0_4, .int .u64 a0_5, .int .u64 a0_6, .int .u64 a0_7, .int .u64 a0_8, .int .u64 a0_9, .int .u64 a0_10, .int .u64 a0_11] 24)
  replace RA := Row.alloc RA (.cells #[.int .u64 xd, .int .u64 a0_1, .int .u64 a0_2, .int .u64 a0_3, .int .u64 a0_4, .int .u64 a0_5, .int .u64 a0_6, .int .u64 a0_7, .int .u64 a0_8, .int .u64 a0_9, .int .u64 a0_10, .int .u64 a0_11] 24)
  replace RB := Row.alloc RB (.cells #[.int .u64 xd, .int .u64 a0_1, .int .u64 a0_2, .int .u64 a0_3, .int .u64 a0_4, .int .u64 a0_5, .int .u64 a0_6, .int .u64 a0_7, .int .u64 a0_8, .int .u64 a0_9, .int .u64 a0_10, .int .u64 a0_11] 24)
  replace RD := Row.alloc RD (.cells #[.int .u64 xd, .int .u64 a0_1, .int .u64 a0_2, .int .u64 a0_3, .int .u64 a0_4, .int .u64 a0_5, .int .u64 a0_6, .int .u64 a0_7, .int .u64 a0_8, .int .u64 a0_9, .int .u64 a0_10, .int .u64 a0_11] 24)
  replace GW := gr_alloc GW (.cells #[.int .u64 xd, .int .u64 a0_1, .int .u64 a0_2, .int .u64 a0_3, .int .u64 a0_4, .int .u64 a0_5, .int .u64 a0_6, .int .u64 a0_7, .int .u64 a0_8, .int .u64 a0_9, .int .u64 a0_10, .int .u64 a0_11] 24)
  clear apb5RC1 apb5RT1 apb5RA apb5RB apb5RD
  obtain ⟨k0, k1, k2, k3, k4, k5, k6, k7, k8, k9, k10, k11⟩ := cells12 RC1
  obtain ⟨t0, t1, t2, t3, t4⟩ := cells5 RT1
  obtain ⟨x0, x1, x2, x3, x4, x5, x6, x7, x8, x9, x10, x11⟩ := cells12 RA
  obtain ⟨y0, y1, y2, y3, y4, y5, y6, y7, y8, y9, y10, y11⟩ := cells12 RB
  obtain ⟨z0, z1, z2, z3, z4, z5, z6, z7, z8, z9, z10, z11⟩ := cells12 RD
  obtain ⟨m0, m1, m2, m3, m4, m5, m6, m7, m8, m9, m10, m11⟩ := cells12 RE
  go_wp2_with fail
  generalize w5.alloc (.cells #[.int .u64 xd, .int .u64 a0_1, .int .u64 a0_2, .int .u64 a0_3, .int .u64 a0_4, .int .u64 a0_5, .int .u64 a0_6, .int .u64 a0_7, .int .u64 a0_8, .int .u64 a0_9, .int .u64 a0_10, .int .u64 a0_11] 24) = Vb5 at *
  generalize w5.heap.size = b5 at *
  refine (P1.out _ GW).mono ?_
  rintro e w6 ⟨rfl, hG⟩
  clear k0 k1 k2 k3 k4 k5 k6 k7 k8 k9 k10 k11 t0 t1 t2 t3 t4 x0 x1 x2 x3 x4 x5 x6 x7 x8 x9 x10 x11 y0 y1 y2 y3 y4 y5 y6 y7 y8 y9 y10 y11 z0 z1 z2 z3 z4 z5 z6 z7 z8 z9 z10 z11 m0 m1 m2 m3 m4 m5 m6 m7 m8 m9 m10 m11
  replace RC1 := Row.grown RC1 hG (by simp)
  replace RT1 := Row.grown RT1 hG (by simp)
  replace RA := Row.grown RA hG (by simp)
  replace RB := Row.grown RB hG (by simp)
  replace RD := Row.grown RD hG (by simp)
  replace RE := Row.grown RE hG (by simp)
  replace GW := gr_trans GW hG
  clear hG
  obtain ⟨k0, k1, k2, k3, k4, k5, k6, k7, k8, k9, k10, k11⟩ := cells12 RC1
  obtain ⟨t0, t1, t2, t3, t4⟩ := cells5 RT1
  obtain ⟨x0, x1, x2, x3, x4, x5, x6, x7, x8, x9, x10, x11⟩ := cells12 RA
  obtain ⟨y0, y1, y2, y3, y4, y5, y6, y7, y8, y9, y10, y11⟩ := cells12 RB
  obtain ⟨z0, z1, z2, z3, z4, z5, z6, z7, z8, z9, z10, z11⟩ := cells12 RD
  obtain ⟨m0, m1, m2, m3, m4, m5, m6, m7, m8, m9, m10, m11⟩ := cells12 RE
  go_wp2_with fail
  refine (P2.out _).mono ?_
  rintro e w7 ⟨rfl, hG⟩
  clear k0 k1 k2 k3 k4 k5 k6 k7 k8 k9 k10 k11 t0 t1 t2 t3 t4 x0 x1 x2 x3 x4 x5 x6 x7 x8 x9 x10 x11 y0 y1 y2 y3 y4 y5 y6 y7 y8 y9 y10 y11 z0 z1 z2 z3 z4 z5 z6 z7 z8 z9 z10 z11 m0 m1 m2 m3 m4 m5 m6 m7 m8 m9 m10 m11
  replace RC1 := Row.grown RC1 hG (by simp)
  replace RT1 := Row.grown RT1 hG (by simp)
  replace RA := Row.grown RA hG (by simp)
  replace RB := Row.grown RB hG (by simp)
  replace RD := Row.grown RD hG (by simp)
  replace RE := Row.grown RE hG (by simp)
  replace GW := gr_trans GW hG
  clear hG
  obtain ⟨k0, k1, k2, k3, k4, k5, k6, k7, k8, k9, k10, k11⟩ := cells12 RC1
  obtain ⟨t0, t1, t2, t3, t4⟩ := cells5 RT1
  obtain ⟨x0, x1, x2, x3, x4, x5, x6, x7, x8, x9, x10, x11⟩ := cells12 RA
  obtain ⟨y0, y1, y2, y3, y4, y5, y6, y7, y8, y9, y10, y11⟩ := cells12 RB
  obtain ⟨z0, z1, z2, z3, z4, z5, z6, z7, z8, z9, z10, z11⟩ := cells12 RD
  obtain ⟨m0, m1, m2, m3, m4, m5, m6, m7, m8, m9, m10, m11⟩ := cells12 RE
  go_wp2_with fail
  clear k0 k1 k2 k3 k4 k5 k6 k7 k8 k9 k10 k11 t0 t1 t2 t3 t4 x0 x1 x2 x3 x4 x5 x6 x7 x8 x9 x10 x11 y0 y1 y2 y3 y4 y5 y6 y7 y8 y9 y10 y11 z0 z1 z2 z3 z4 z5 z6 z7 z8 z9 z10 z11 m0 m1 m2 m3 m4 m5 m6 m7 m8 m9 m10 m11
  have H9 := big_of (show St w q b2 b3 b4 b5 [a0_0, a0_1, a0_2, a0_3, a0_4, a0_5, a0_6, a0_7, a0_8, a0_9, a0_10, a0_11] [xa, a0_1, a0_2, a0_3, a0_4, pe, ca, a1_3, a0_8, a0_9, a0_10, a0_11] [xa, a0_1, a0_2, a0_3, a0_4, pe, ca, a1_3, a0_8, a0_9, a0_10, a0_11] [xd, a0_1, a0_2, a0_3, a0_4, a0_5, a0_6, a0_7, a0_8, a0_9, a0_10, a0_11] [xd, a0_1, a0_2, a0_3, a0_4, a0_5, a0_6, a0_7, a0_8, a0_9, a0_10, a0_11] w7 from ⟨RC1, RA, RB, RD, RE, GW⟩)
  unfold Big at H9
  clear RC1 RT1 RA RB RD RE GW
  go_region_held3 (fun w' => w'.cell? ⟨q, 0, none⟩ = some (.int .u64 a0_0) ∧ w'.cell? ⟨q, 1, none⟩ = some (.int .u64 a0_1) ∧ w'.cell? ⟨q, 2, none⟩ = some (.int .u64 a0_2) ∧ w'.cell? ⟨q, 3, none⟩ = some (.int .u64 a0_3) ∧ w'.cell? ⟨q, 4, none⟩ = some (.int .u64 a0_4) ∧ w'.cell? ⟨q, 5, none⟩ = some (.int .u64 a0_5) ∧ w'.cell? ⟨q, 6, none⟩ = some (.int .u64 a0_6) ∧ w'.cell? ⟨q, 7, none⟩ = some (.int .u64 a0_7) ∧ w'.cell? ⟨q, 8, none⟩ = some (.int .u64 a0_8) ∧ w'.cell? ⟨q, 9, none⟩ = some (.int .u64 a0_9) ∧ w'.cell? ⟨q, 10, none⟩ = some (.int .u64 a0_10) ∧ w'.cell? ⟨q, 11, none⟩ = some (.int .u64 a0_11) ∧ w'.cell? ⟨b2, 0, none⟩ = some (.int .u64 xa) ∧ w'.cell? ⟨b2, 1, none⟩ = some (.int .u64 a0_1) ∧ w'.cell? ⟨b2, 2, none⟩ = some (.int .u64 a0_2) ∧ w'.cell? ⟨b2, 3, none⟩ = some (.int .u64 a0_3) ∧ w'.cell? ⟨b2, 4, none⟩ = some (.int .u64 a0_4) ∧ w'.cell? ⟨b2, 5, none⟩ = some (.int .u64 pe) ∧ w'.cell? ⟨b2, 6, none⟩ = some (.int .u64 ca) ∧ w'.cell? ⟨b2, 7, none⟩ = some (.int .u64 a1_3) ∧ w'.cell? ⟨b2, 8, none⟩ = some (.int .u64 a0_8) ∧ w'.cell? ⟨b2, 9, none⟩ = some (.int .u64 a0_9) ∧ w'.cell? ⟨b2, 10, none⟩ = some (.int .u64 a0_10) ∧ w'.cell? ⟨b2, 11, none⟩ = some (.int .u64 a0_11) ∧ w'.cell? ⟨b3, 0, none⟩ = some (.int .u64 xa) ∧ w'.cell? ⟨b3, 1, none⟩ = some (.int .u64 a0_1) ∧ w'.cell? ⟨b3, 2, none⟩ = some (.int .u64 a0_2) ∧ w'.cell? ⟨b3, 3, none⟩ = some (.int .u64 a0_3) ∧ w'.cell? ⟨b3, 4, none⟩ = some (.int .u64 a0_4) ∧ w'.cell? ⟨b3, 5, none⟩ = some (.int .u64 pe) ∧ w'.cell? ⟨b3, 6, none⟩ = some (.int .u64 ca) ∧ w'.cell? ⟨b3, 7, none⟩ = some (.int .u64 a1_3) ∧ w'.cell? ⟨b3, 8, none⟩ = some (.int .u64 a0_8) ∧ w'.cell? ⟨b3, 9, none⟩ = some (.int .u64 a0_9) ∧ w'.cell? ⟨b3, 10, none⟩ = some (.int .u64 a0_10) ∧ w'.cell? ⟨b3, 11, none⟩ = some (.int .u64 a0_11) ∧ w'.cell? ⟨b4, 0, none⟩ = some (.int .u64 xd) ∧ w'.cell? ⟨b4, 1, none⟩ = some (.int .u64 a0_1) ∧ w'.cell? ⟨b4, 2, none⟩ = some (.int .u64 a0_2) ∧ w'.cell? ⟨b4, 3, none⟩ = some (.int .u64 a0_3) ∧ w'.cell? ⟨b4, 4, none⟩ = some (.int .u64 a0_4) ∧ w'.cell? ⟨b4, 5, none⟩ = some (.int .u64 a0_5) ∧ w'.cell? ⟨b4, 6, none⟩ = some (.int .u64 a0_6) ∧ w'.cell? ⟨b4, 7, none⟩ = some (.int .u64 a0_7) ∧ w'.cell? ⟨b4, 8, none⟩ = some (.int .u64 a0_8) ∧ w'.cell? ⟨b4, 9, none⟩ = some (.int .u64 a0_9) ∧ w'.cell? ⟨b4, 10, none⟩ = some (.int .u64 a0_10) ∧ w'.cell? ⟨b4, 11, none⟩ = some (.int .u64 a0_11) ∧ w'.cell? ⟨b5, 0, none⟩ = some (.int .u64 xd) ∧ w'.cell? ⟨b5, 1, none⟩ = some (.int .u64 a0_1) ∧ w'.cell? ⟨b5, 2, none⟩ = some (.int .u64 a0_2) ∧ w'.cell? ⟨b5, 3, none⟩ = some (.int .u64 a0_3) ∧ w'.cell? ⟨b5, 4, none⟩ = some (.int .u64 a0_4) ∧ w'.cell? ⟨b5, 5, none⟩ = some (.int .u64 a0_5) ∧ w'.cell? ⟨b5, 6, none⟩ = some (.int .u64 a0_6) ∧ w'.cell? ⟨b5, 7, none⟩ = some (.int .u64 a0_7) ∧ w'.cell? ⟨b5, 8, none⟩ = some (.int .u64 a0_8) ∧ w'.cell? ⟨b5, 9, none⟩ = some (.int .u64 a0_9) ∧ w'.cell? ⟨b5, 10, none⟩ = some (.int .u64 a0_10) ∧ w'.cell? ⟨b5, 11, none⟩ = some (.int .u64 a0_11) ∧ St w q b2 b3 b4 b5 [a0_0, a0_1, a0_2, a0_3, a0_4, a0_5, a0_6, a0_7, a0_8, a0_9, a0_10, a0_11] [xa, a0_1, a0_2, a0_3, a0_4, pe, ca, a1_3, a0_8, a0_9, a0_10, a0_11] [xa, a0_1, a0_2, a0_3, a0_4, pe, ca, a1_3, a0_8, a0_9, a0_10, a0_11] [xd, a0_1, a0_2, a0_3, a0_4, a0_5, a0_6, a0_7, a0_8, a0_9, a0_10, a0_11] [xd, a0_1, a0_2, a0_3, a0_4, a0_5, a0_6, a0_7, a0_8, a0_9, a0_10, a0_11] w')
    (first | assumption | (exact Big.on (gr_drew (gr_refl _ none)) (by assumption)) | (exact Big.on (by assumption) (by assumption)))
    (first
      | (go_at_call 13; refine (K1.out _ (Big.st (by assumption)).gr).mono ?_; rintro e w' ⟨rfl, hg⟩)
      | (go_at_call 14; refine (K2.out _).mono ?_; rintro e w' ⟨rfl, hg⟩))
  rename_i hHeld
  have gb := (Big.st hHeld).gr
  clear H9 hHeld
  go_wp2_with fail
  go_ret
  exact ⟨rfl, gr_below gb⟩

theorem own : ownKnob Tryd.prog.godebug = none := by kernel_rfl
theorem laidOut : laidOutB Tryd.prog = true := by kernel_rfl

set_option maxRecDepth 100000 in
theorem lifted (os : Os) (started : os.Started) (H : Type) (enc : TypeId × Value → H) :
    ReturnsInHanded {} Tryd.checked os 3 .any (fun w args => (Rows.trapAllSpec.pre enc Tryd.prog Tryd.f3 [] false w args ∧ laidMetH Tryd.prog laidL w) ∧ sizedMet enc Tryd.prog Tryd.f3 (OpenSpec.ofChange Rows.trapAllSpec) false w args)
      (Rows.trapAllSpec.post enc Tryd.prog Tryd.f3 false true false false) := by
  refine returnsInHanded_of_change_and (C := Tryd.checked) (X := fun w _ => laidMetH Tryd.prog laidL w) (fun _ _ _ hh h => h.of_heap hh) own started (by kernel_rfl) Tryd.func3
    (ChangeSpec.witness_shaped (enc := enc) (C := Tryd.checked) (os := os) (X := fun w _ => laidMetH Tryd.prog laidL w) false (World.doorLaid Tryd.prog 400 os) #[.agg #[.int .u64 0, .int .u64 0, .int .u64 0, .int .u64 0, .int .u64 0, .int .u64 0, .int .u64 0, .int .u64 0, .int .u64 0, .int .u64 0, .int .u64 0, .int .u64 0], .agg #[.int .i64 0, .int .i64 0, .int .u64 0, .int .u64 0, .bool false]] 8 rfl (World.shaped_of_RefB (by kernel_rfl) (by kernel_rfl)) (by kernel_rfl) (by kernel_rfl) (by kernel_rfl) (door_met os _)) ?_
  intro W base args ds gs before hval0 hW _ _ hL _
  have hval : ∀ (j : Nat) t v, Tryd.f3.params[j]? = some t → args[j]? = some v → Value.okWide Tryd.prog W .any base t v := hval0
  have hW' := hW
  obtain ⟨p, q, hA0, hV, rfl, hfz, hnd⟩ := hW
  have hA : DataW.TrodAll enc Tryd.prog W 0 (fun _ => true) true Tryd.f3.params.toList args.toList ds p := hA0
  rw [Tryd.params3] at hA hval
  obtain ⟨v0, vs0, d0, ds0, p0, q0, hargs, rfl, rfl, h0, r0⟩ := trodAll_cons hA
  obtain ⟨v1, vs1, d1, ds1, p1, q1, rfl, rfl, rfl, h1, r1⟩ := trodAll_cons r0
  obtain ⟨rfl, rfl, rfl⟩ := trodAll_nil r1
  obtain rfl : args = #[v0, v1] := by cases args; simp_all
  obtain ⟨rfl, rfl⟩ := trodVars_none hV
  clear hA0 hval0 hA
  have k0 := h0
  have lt0 : ∀ x ∈ p0, x.block < W.heap.size := by obtain ⟨m, hm⟩ := k0; exact DataW.trod_lt m _ _ _ hm
  obtain ⟨xs0, rfl, l0, m0, f0⟩ := Op.open_struct Tryd.underlying24 (hval 0 24 v0 rfl rfl) h0
  rw [show Tryd.prog.cellsOf 24 = 12 from by kernel_rfl] at l0
  obtain _ | ⟨c0_0, xs0⟩ := xs0
  · simp at l0
  obtain _ | ⟨c0_1, xs0⟩ := xs0
  · simp at l0
  obtain _ | ⟨c0_2, xs0⟩ := xs0
  · simp at l0
  obtain _ | ⟨c0_3, xs0⟩ := xs0
  · simp at l0
  obtain _ | ⟨c0_4, xs0⟩ := xs0
  · simp at l0
  obtain _ | ⟨c0_5, xs0⟩ := xs0
  · simp at l0
  obtain _ | ⟨c0_6, xs0⟩ := xs0
  · simp at l0
  obtain _ | ⟨c0_7, xs0⟩ := xs0
  · simp at l0
  obtain _ | ⟨c0_8, xs0⟩ := xs0
  · simp at l0
  obtain _ | ⟨c0_9, xs0⟩ := xs0
  · simp at l0
  obtain _ | ⟨c0_10, xs0⟩ := xs0
  · simp at l0
  obtain _ | ⟨c0_11, xs0⟩ := xs0
  · simp at l0
  obtain _ | ⟨_, _⟩ := xs0
  rotate_left
  · simp at l0
  clear h0
  obtain ⟨y0_0, g0_0⟩ := f0 0 _ rfl
  replace g0_0 : DataW.trod enc Tryd.prog W 0 (fun _ => true) true m0 22 [c0_0] = some y0_0 := g0_0
  obtain ⟨a0_0, e0_0, _, w0_0⟩ := DataW.trod_int Tryd.underlying22 g0_0
  simp at e0_0; subst e0_0
  obtain ⟨y0_1, g0_1⟩ := f0 1 _ rfl
  replace g0_1 : DataW.trod enc Tryd.prog W 0 (fun _ => true) true m0 22 [c0_1] = some y0_1 := g0_1
  obtain ⟨a0_1, e0_1, _, w0_1⟩ := DataW.trod_int Tryd.underlying22 g0_1
  simp at e0_1; subst e0_1
  obtain ⟨y0_2, g0_2⟩ := f0 2 _ rfl
  replace g0_2 : DataW.trod enc Tryd.prog W 0 (fun _ => true) true m0 22 [c0_2] = some y0_2 := g0_2
  obtain ⟨a0_2, e0_2, _, w0_2⟩ := DataW.trod_int Tryd.underlying22 g0_2
  simp at e0_2; subst e0_2
  obtain ⟨y0_3, g0_3⟩ := f0 3 _ rfl
  replace g0_3 : DataW.trod enc Tryd.prog W 0 (fun _ => true) true m0 22 [c0_3] = some y0_3 := g0_3
  obtain ⟨a0_3, e0_3, _, w0_3⟩ := DataW.trod_int Tryd.underlying22 g0_3
  simp at e0_3; subst e0_3
  obtain ⟨y0_4, g0_4⟩ := f0 4 _ rfl
  replace g0_4 : DataW.trod enc Tryd.prog W 0 (fun _ => true) true m0 22 [c0_4] = some y0_4 := g0_4
  obtain ⟨a0_4, e0_4, _, w0_4⟩ := DataW.trod_int Tryd.underlying22 g0_4
  simp at e0_4; subst e0_4
  obtain ⟨y0_5, g0_5⟩ := f0 5 _ rfl
  replace g0_5 : DataW.trod enc Tryd.prog W 0 (fun _ => true) true m0 22 [c0_5] = some y0_5 := g0_5
  obtain ⟨a0_5, e0_5, _, w0_5⟩ := DataW.trod_int Tryd.underlying22 g0_5
  simp at e0_5; subst e0_5
  obtain ⟨y0_6, g0_6⟩ := f0 6 _ rfl
  replace g0_6 : DataW.trod enc Tryd.prog W 0 (fun _ => true) true m0 22 [c0_6] = some y0_6 := g0_6
  obtain ⟨a0_6, e0_6, _, w0_6⟩ := DataW.trod_int Tryd.underlying22 g0_6
  simp at e0_6; subst e0_6
  obtain ⟨y0_7, g0_7⟩ := f0 7 _ rfl
  replace g0_7 : DataW.trod enc Tryd.prog W 0 (fun _ => true) true m0 22 [c0_7] = some y0_7 := g0_7
  obtain ⟨a0_7, e0_7, _, w0_7⟩ := DataW.trod_int Tryd.underlying22 g0_7
  simp at e0_7; subst e0_7
  obtain ⟨y0_8, g0_8⟩ := f0 8 _ rfl
  replace g0_8 : DataW.trod enc Tryd.prog W 0 (fun _ => true) true m0 22 [c0_8] = some y0_8 := g0_8
  obtain ⟨a0_8, e0_8, _, w0_8⟩ := DataW.trod_int Tryd.underlying22 g0_8
  simp at e0_8; subst e0_8
  obtain ⟨y0_9, g0_9⟩ := f0 9 _ rfl
  replace g0_9 : DataW.trod enc Tryd.prog W 0 (fun _ => true) true m0 22 [c0_9] = some y0_9 := g0_9
  obtain ⟨a0_9, e0_9, _, w0_9⟩ := DataW.trod_int Tryd.underlying22 g0_9
  simp at e0_9; subst e0_9
  obtain ⟨y0_10, g0_10⟩ := f0 10 _ rfl
  replace g0_10 : DataW.trod enc Tryd.prog W 0 (fun _ => true) true m0 22 [c0_10] = some y0_10 := g0_10
  obtain ⟨a0_10, e0_10, _, w0_10⟩ := DataW.trod_int Tryd.underlying22 g0_10
  simp at e0_10; subst e0_10
  obtain ⟨y0_11, g0_11⟩ := f0 11 _ rfl
  replace g0_11 : DataW.trod enc Tryd.prog W 0 (fun _ => true) true m0 22 [c0_11] = some y0_11 := g0_11
  obtain ⟨a0_11, e0_11, _, w0_11⟩ := DataW.trod_int Tryd.underlying22 g0_11
  simp at e0_11; subst e0_11
  have k1 := h1
  have lt1 : ∀ x ∈ p1, x.block < W.heap.size := by obtain ⟨m, hm⟩ := k1; exact DataW.trod_lt m _ _ _ hm
  obtain ⟨xs1, rfl, l1, m1, f1⟩ := Op.open_struct Tryd.underlying26 (hval 1 26 v1 rfl rfl) h1
  rw [show Tryd.prog.cellsOf 26 = 5 from by kernel_rfl] at l1
  obtain _ | ⟨c1_0, xs1⟩ := xs1
  · simp at l1
  obtain _ | ⟨c1_1, xs1⟩ := xs1
  · simp at l1
  obtain _ | ⟨c1_2, xs1⟩ := xs1
  · simp at l1
  obtain _ | ⟨c1_3, xs1⟩ := xs1
  · simp at l1
  obtain _ | ⟨c1_4, xs1⟩ := xs1
  · simp at l1
  obtain _ | ⟨_, _⟩ := xs1
  rotate_left
  · simp at l1
  clear h1
  obtain ⟨y1_0, g1_0⟩ := f1 0 _ rfl
  replace g1_0 : DataW.trod enc Tryd.prog W 0 (fun _ => true) true m1 3 [c1_0] = some y1_0 := g1_0
  obtain ⟨a1_0, e1_0, _, w1_0⟩ := DataW.trod_int Tryd.underlying3 g1_0
  simp at e1_0; subst e1_0
  obtain ⟨y1_1, g1_1⟩ := f1 1 _ rfl
  replace g1_1 : DataW.trod enc Tryd.prog W 0 (fun _ => true) true m1 3 [c1_1] = some y1_1 := g1_1
  obtain ⟨a1_1, e1_1, _, w1_1⟩ := DataW.trod_int Tryd.underlying3 g1_1
  simp at e1_1; subst e1_1
  obtain ⟨y1_2, g1_2⟩ := f1 2 _ rfl
  replace g1_2 : DataW.trod enc Tryd.prog W 0 (fun _ => true) true m1 22 [c1_2] = some y1_2 := g1_2
  obtain ⟨a1_2, e1_2, _, w1_2⟩ := DataW.trod_int Tryd.underlying22 g1_2
  simp at e1_2; subst e1_2
  obtain ⟨y1_3, g1_3⟩ := f1 3 _ rfl
  replace g1_3 : DataW.trod enc Tryd.prog W 0 (fun _ => true) true m1 22 [c1_3] = some y1_3 := g1_3
  obtain ⟨a1_3, e1_3, _, w1_3⟩ := DataW.trod_int Tryd.underlying22 g1_3
  simp at e1_3; subst e1_3
  obtain ⟨y1_4, g1_4⟩ := f1 4 _ rfl
  replace g1_4 : DataW.trod enc Tryd.prog W 0 (fun _ => true) true m1 4 [c1_4] = some y1_4 := g1_4
  obtain ⟨a1_4, e1_4, _⟩ := DataW.trod_bool Tryd.underlying4 g1_4
  simp at e1_4; subst e1_4
  refine (walk W (of_laid hL) a0_0 w0_0 a0_1 w0_1 a0_2 w0_2 a0_3 w0_3 a0_4 w0_4 a0_5 w0_5 a0_6 w0_6 a0_7 w0_7 a0_8 w0_8 a0_9 w0_9 a0_10 w0_10 a0_11 w0_11 a1_0 w1_0 a1_1 w1_1 a1_2 w1_2 a1_3 w1_3 a1_4).mono fun e W' ⟨he, bel⟩ => ?_
  subst he
  exact ⟨_, rfl, _, _, _, [], _, [], hW', trodAll_mk1 (shut_bool Tryd.underlying4 _), (trodAll_cons_mk (Below.trod laidOut (by kernel_rfl) (of_decide_eq_true (by kernel_rfl)) k0 bel lt0) (trodAll_cons_mk (Below.trod laidOut (by kernel_rfl) (of_decide_eq_true (by kernel_rfl)) k1 bel lt1) trodAll_mk0)), rfl, bel.frame _, fun h => by cases h⟩

theorem over : Rows.TrapAllSaid :=
  OpenClaim.holds_of_wide 3 Tryd.f3 rfl rfl rfl rfl rfl rfl rfl ⟨rfl, rfl, rfl, rfl, rfl⟩ rfl rfl rfl rfl rfl (by kernel_rfl) Tryd.func3 (by kernel_rfl)
    (of_decide_eq_true (by kernel_rfl)) (by unfold Func.isWrapper; first | (rw [if_pos (by decide +kernel)]; kernel_rfl) | (rw [if_neg (by decide +kernel)]; exact ⟨rfl, rfl⟩))
    (fun os started H enc _ => lifted os started H enc)

/-- The statement: the card, its listed variable tied to the program's text. -/
theorem proved : Rows.TrapAllCardSaid :=
  Claim7.holds_tied_plain_at .later [] [.data] true (true, "8e6e553f6c7ced0dfb6e7eaba441bf0be50b2fff110c9f9a613823ef96ea14d8") false
    over (fun _ h => by cases h) (by kernel_rfl) (fun _ h => by cases h) trapAll_row_tie rfl ⟨rfl, rfl⟩ (by kernel_rfl) rfl
    (fun f fn hf hfn => by
      obtain rfl : f = 3 := Option.some.inj ((show Tryd.prog.funcNamed "suzerain/suzerainlaw14.TrapAll" = some 3 by kernel_rfl).symm.trans hf) |>.symm
      obtain rfl : fn = Tryd.f3 := (Option.some.inj (Tryd.func3.symm.trans hfn)).symm
      exact ⟨by kernel_rfl, fun j t ht => by
        rw [Tryd.params3] at ht
        have hm : t ∈ [24, 26] := by simpa using Array.mem_of_getElem? ht
        have hall : ([24, 26].all fun u => !Tryd.prog.wantsStandIn u) = true := by kernel_rfl
        exact (show Tryd.prog.wantsStandIn t = false by simpa using List.all_eq_true.1 hall t hm)⟩)
    (by kernel_rfl)
#print axioms proved

end Go.Proofs.YtkfmcbhoendocaaDoor.trapAll
