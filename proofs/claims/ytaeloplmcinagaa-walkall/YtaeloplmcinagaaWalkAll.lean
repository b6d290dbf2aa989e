/-
  Proved: for any memory and any access, the law WalkAll returns true: where a walk ends, or its fault, and the real address, are as the document says.
  Conditions: none beyond the statement's own.
-/
import Derived.Test.YtaeloplmcinagaaRows
import Derived.Test.YtaeloplmcinagaaOpen
import Derived.Test.YtaeloplmcinagaaOpenT
import Derived.Lib.Hide
import Derived.Deep.Cut
import Derived.Test.YtaeloplmcinagaaWalkL
import Derived.Test.YtaeloplmcinagaaWalkN
import Derived.Test.YtaeloplmcinagaaWalkQ
import Derived.Test.YtaeloplmcinagaaWalkRT
import Derived.Deep.RegionHeld3
namespace Go.Proofs.Ytaeloplmcinagaa.walkAll
open Go Go.ChangeShapes Go.WideShapes Go.ChangeAt Go.RowKit W M D A C P K
set_option linter.unusedVariables false

structure Stand (w0 : World) (t q1 q2 q3 q4 : Nat) (b0 b1 b2 b3 b4 b5 b6 b7 b8 b9 b10 b11 b12 b13 b14 : Int) (pt lv ca vl : Int) (gb isf : Bool) (w : World) : Prop where
  tr : Row w t 29 [.int .u64 b0, .int .u64 b1, .int .u64 b2, .int .u64 b3, .int .u64 b4, .int .u64 b5, .int .u64 b6, .int .u64 b7, .int .u64 b8, .int .u64 b9, .int .u64 b10, .int .u64 b11, .int .i64 b12, .int .i64 b13, .int .u64 b14]
  l1 : Row w (q1) 36 [.int .u64 pt, .int .i64 lv, .bool gb]
  f1 : Row w (q1 + 1) 38 [.bool isf, .int .i64 ca, .int .u64 vl]
  l2 : Row w (q2) 36 [.int .u64 pt, .int .i64 lv, .bool gb]
  f2 : Row w (q2 + 1) 38 [.bool isf, .int .i64 ca, .int .u64 vl]
  q3r : Row w (q3) 38 [.bool isf, .int .i64 ca, .int .u64 vl]
  q4r : Row w (q4) 38 [.bool isf, .int .i64 ca, .int .u64 vl]
  gr : w0.grownBy w none
section
variable {w0 w w' : World} {t q1 q2 q3 q4 : Nat} {b0 b1 b2 b3 b4 b5 b6 b7 b8 b9 b10 b11 b12 b13 b14 : Int} {pt lv ca vl : Int} {gb isf : Bool}
theorem Stand.keep (h : Stand w0 t q1 q2 q3 q4 b0 b1 b2 b3 b4 b5 b6 b7 b8 b9 b10 b11 b12 b13 b14 pt lv ca vl gb isf w) (hg : w.grownBy w' none) : Stand w0 t q1 q2 q3 q4 b0 b1 b2 b3 b4 b5 b6 b7 b8 b9 b10 b11 b12 b13 b14 pt lv ca vl gb isf w' :=
  ⟨h.tr.grown hg (by simp), h.l1.grown hg (by simp), h.f1.grown hg (by simp), h.l2.grown hg (by simp), h.f2.grown hg (by simp), h.q3r.grown hg (by simp), h.q4r.grown hg (by simp), gr_trans h.gr hg⟩
end
def Nine (w0 : World) (t q1 q2 q3 q4 : Nat) (b0 b1 b2 b3 b4 b5 b6 b7 b8 b9 b10 b11 b12 b13 b14 : Int) (pt lv ca vl : Int) (gb isf : Bool) (w : World) : Prop :=
  w.cell? ⟨t, 13, none⟩ = some (.int .i64 b13) ∧ w.cell? ⟨t, 14, none⟩ = some (.int .u64 b14) ∧ Stand w0 t q1 q2 q3 q4 b0 b1 b2 b3 b4 b5 b6 b7 b8 b9 b10 b11 b12 b13 b14 pt lv ca vl gb isf w
def Ten (w0 : World) (t q1 q2 q3 q4 : Nat) (b0 b1 b2 b3 b4 b5 b6 b7 b8 b9 b10 b11 b12 b13 b14 : Int) (pt lv ca vl : Int) (gb isf : Bool) (w : World) : Prop :=
  w.cell? ⟨t, 0, none⟩ = some (.int .u64 b0) ∧ w.cell? ⟨t, 1, none⟩ = some (.int .u64 b1) ∧ w.cell? ⟨t, 2, none⟩ = some (.int .u64 b2) ∧ w.cell? ⟨t, 3, none⟩ = some (.int .u64 b3) ∧ w.cell? ⟨t, 4, none⟩ = some (.int .u64 b4) ∧ w.cell? ⟨t, 5, none⟩ = some (.int .u64 b5) ∧ w.cell? ⟨t, 6, none⟩ = some (.int .u64 b6) ∧ w.cell? ⟨t, 7, none⟩ = some (.int .u64 b7) ∧ w.cell? ⟨t, 8, none⟩ = some (.int .u64 b8) ∧ w.cell? ⟨t, 9, none⟩ = some (.int .u64 b9) ∧ w.cell? ⟨t, 10, none⟩ = some (.int .u64 b10) ∧ w.cell? ⟨t, 11, none⟩ = some (.int .u64 b11) ∧ w.cell? ⟨q1, 0, none⟩ = some (.int .u64 pt) ∧ w.cell? ⟨q1, 1, none⟩ = some (.int .i64 lv) ∧ w.cell? ⟨q1, 2, none⟩ = some (.bool gb) ∧ w.cell? ⟨q1 + 1, 0, none⟩ = some (.bool isf) ∧ w.cell? ⟨q1 + 1, 1, none⟩ = some (.int .i64 ca) ∧ w.cell? ⟨q1 + 1, 2, none⟩ = some (.int .u64 vl) ∧ w.cell? ⟨q2, 0, none⟩ = some (.int .u64 pt) ∧ w.cell? ⟨q2, 1, none⟩ = some (.int .i64 lv) ∧ w.cell? ⟨q2, 2, none⟩ = some (.bool gb) ∧ w.cell? ⟨q2 + 1, 0, none⟩ = some (.bool isf) ∧ w.cell? ⟨q2 + 1, 1, none⟩ = some (.int .i64 ca) ∧ w.cell? ⟨q2 + 1, 2, none⟩ = some (.int .u64 vl) ∧ w.cell? ⟨q3, 0, none⟩ = some (.bool isf) ∧ w.cell? ⟨q3, 1, none⟩ = some (.int .i64 ca) ∧ w.cell? ⟨q3, 2, none⟩ = some (.int .u64 vl) ∧ w.cell? ⟨q4, 0, none⟩ = some (.bool isf) ∧ w.cell? ⟨q4, 1, none⟩ = some (.int .i64 ca) ∧ w.cell? ⟨q4, 2, none⟩ = some (.int .u64 vl) ∧ Stand w0 t q1 q2 q3 q4 b0 b1 b2 b3 b4 b5 b6 b7 b8 b9 b10 b11 b12 b13 b14 pt lv ca vl gb isf w
section
variable {w0 w w' : World} {t q1 q2 q3 q4 : Nat} {b0 b1 b2 b3 b4 b5 b6 b7 b8 b9 b10 b11 b12 b13 b14 : Int} {pt lv ca vl : Int} {gb isf : Bool}
theorem nine_of (h : Stand w0 t q1 q2 q3 q4 b0 b1 b2 b3 b4 b5 b6 b7 b8 b9 b10 b11 b12 b13 b14 pt lv ca vl gb isf w) : Nine w0 t q1 q2 q3 q4 b0 b1 b2 b3 b4 b5 b6 b7 b8 b9 b10 b11 b12 b13 b14 pt lv ca vl gb isf w := ⟨h.tr.cell 13, h.tr.cell 14, h⟩
theorem Nine.on (hg : w.grownBy w' none) (h : Nine w0 t q1 q2 q3 q4 b0 b1 b2 b3 b4 b5 b6 b7 b8 b9 b10 b11 b12 b13 b14 pt lv ca vl gb isf w) : Nine w0 t q1 q2 q3 q4 b0 b1 b2 b3 b4 b5 b6 b7 b8 b9 b10 b11 b12 b13 b14 pt lv ca vl gb isf w' := nine_of (h.2.2.keep hg)
theorem ten_of (h : Stand w0 t q1 q2 q3 q4 b0 b1 b2 b3 b4 b5 b6 b7 b8 b9 b10 b11 b12 b13 b14 pt lv ca vl gb isf w) : Ten w0 t q1 q2 q3 q4 b0 b1 b2 b3 b4 b5 b6 b7 b8 b9 b10 b11 b12 b13 b14 pt lv ca vl gb isf w := ⟨h.tr.cell 0, h.tr.cell 1, h.tr.cell 2, h.tr.cell 3, h.tr.cell 4, h.tr.cell 5, h.tr.cell 6, h.tr.cell 7, h.tr.cell 8, h.tr.cell 9, h.tr.cell 10, h.tr.cell 11, h.l1.cell 0, h.l1.cell 1, h.l1.cell 2, h.f1.cell 0, h.f1.cell 1, h.f1.cell 2, h.l2.cell 0, h.l2.cell 1, h.l2.cell 2, h.f2.cell 0, h.f2.cell 1, h.f2.cell 2, h.q3r.cell 0, h.q3r.cell 1, h.q3r.cell 2, h.q4r.cell 0, h.q4r.cell 1, h.q4r.cell 2, h⟩
theorem Ten.st (h : Ten w0 t q1 q2 q3 q4 b0 b1 b2 b3 b4 b5 b6 b7 b8 b9 b10 b11 b12 b13 b14 pt lv ca vl gb isf w) : Stand w0 t q1 q2 q3 q4 b0 b1 b2 b3 b4 b5 b6 b7 b8 b9 b10 b11 b12 b13 b14 pt lv ca vl gb isf w := h.2.2.2.2.2.2.2.2.2.2.2.2.2.2.2.2.2.2.2.2.2.2.2.2.2.2.2.2.2.2
theorem Ten.on (hg : w.grownBy w' none) (h : Ten w0 t q1 q2 q3 q4 b0 b1 b2 b3 b4 b5 b6 b7 b8 b9 b10 b11 b12 b13 b14 pt lv ca vl gb isf w) : Ten w0 t q1 q2 q3 q4 b0 b1 b2 b3 b4 b5 b6 b7 b8 b9 b10 b11 b12 b13 b14 pt lv ca vl gb isf w' := ten_of (h.st.keep hg)
end

set_option maxRecDepth 100000 in
set_option maxHeartbeats 16000000 in
theorem walk (w : World) (a0_0 : Int) (w0_0 : (Lit.int .u8 a0_0).wf = true) (A0_1 : Option Addr) (n0_1 k0_1 : Nat) (mc0_1 : n0_1 ≤ k0_1) (cc0_1 : k0_1 ≤ 9223372036854775807) (el0_1 : ∀ i, i < n0_1 → ∃ ad, A0_1 = some ad ∧ ad.block < w.heap.size ∧ ∃ (x0 : Int) (x1 : Int), (w.cell? (ad.add (i * 2 + 0)) = some (.int .u32 x0) ∧ (Lit.int .u32 x0).wf = true) ∧ (w.cell? (ad.add (i * 2 + 1)) = some (.int .u64 x1) ∧ (Lit.int .u64 x1).wf = true)) (a1_0 : Int) (w1_0 : (Lit.int .u64 a1_0).wf = true) (a1_1 : Int) (w1_1 : (Lit.int .u64 a1_1).wf = true) (a1_2 : Int) (w1_2 : (Lit.int .u64 a1_2).wf = true) (a1_3 : Int) (w1_3 : (Lit.int .u64 a1_3).wf = true) (a1_4 : Int) (w1_4 : (Lit.int .u64 a1_4).wf = true) (a1_5 : Int) (w1_5 : (Lit.int .u64 a1_5).wf = true) (a1_6 : Int) (w1_6 : (Lit.int .u64 a1_6).wf = true) (a1_7 : Int) (w1_7 : (Lit.int .u64 a1_7).wf = true) (a1_8 : Int) (w1_8 : (Lit.int .u64 a1_8).wf = true) (a1_9 : Int) (w1_9 : (Lit.int .u64 a1_9).wf = true) (a1_10 : Int) (w1_10 : (Lit.int .u64 a1_10).wf = true) (a1_11 : Int) (w1_11 : (Lit.int .u64 a1_11).wf = true) (a1_12 : Int) (w1_12 : (Lit.int .i64 a1_12).wf = true) (a1_13 : Int) (w1_13 : (Lit.int .i64 a1_13).wf = true) (a1_14 : Int) (w1_14 : (Lit.int .u64 a1_14).wf = true) :
    Calls Try.prog 3 #[.agg #[.int .u8 a0_0, .slice A0_1 n0_1 k0_1], .agg #[.int .u64 a1_0, .int .u64 a1_1, .int .u64 a1_2, .int .u64 a1_3, .int .u64 a1_4, .int .u64 a1_5, .int .u64 a1_6, .int .u64 a1_7, .int .u64 a1_8, .int .u64 a1_9, .int .u64 a1_10, .int .u64 a1_11, .int .i64 a1_12, .int .i64 a1_13, .int .u64 a1_14]] w fun e w' => e = .returned (.bool true) ∧ Below w.heap.size w w' := by
  have ha : 0 ≤ a0_0 ∧ a0_0 ≤ 255 := bounds_u8 w0_0
  have h0 : B64 a1_0 := bounds_u64 w1_0
  have h1 : B64 a1_1 := bounds_u64 w1_1
  have h2 : B64 a1_2 := bounds_u64 w1_2
  have h3 : B64 a1_3 := bounds_u64 w1_3
  have h4 : B64 a1_4 := bounds_u64 w1_4
  have h5 : B64 a1_5 := bounds_u64 w1_5
  have h6 : B64 a1_6 := bounds_u64 w1_6
  have h7 : B64 a1_7 := bounds_u64 w1_7
  have h8 : B64 a1_8 := bounds_u64 w1_8
  have h9 : B64 a1_9 := bounds_u64 w1_9
  have h10 : B64 a1_10 := bounds_u64 w1_10
  have h11 : B64 a1_11 := bounds_u64 w1_11
  have hp : I64 a1_12 := bounds_i64 w1_12
  have hk : I64 a1_13 := bounds_i64 w1_13
  have hv : B64 a1_14 := bounds_u64 w1_14
  have hc : C.Good [a1_0, a1_1, a1_2, a1_3, a1_4, a1_5, a1_6, a1_7, a1_8, a1_9, a1_10, a1_11] := good12 h0 h1 h2 h3 h4 h5 h6 h7 h8 h9 h10 h11
  have HH0 := Lib.hid h0
  have HH9 := Lib.hid h9
  obtain ⟨f, h, hE⟩ := elems_of el0_1
  obtain ⟨bs, hbs⟩ : ∃ bs, bs = fillV f h (min n0_1 64) (List.replicate ((1 + a0_0 % 16).toNat * 4096) 0) := ⟨_, rfl⟩
  have BT := Lib.hid (fun W hW => both_c a0_0 ha A0_1 n0_1 k0_1 mc0_1 cc0_1 f h W hW)
  rw [← hbs] at BT
  have HE := Lib.hid hE
  clear w0_0 w1_0 w1_1 w1_2 w1_3 w1_4 w1_5 w1_6 w1_7 w1_8 w1_9 w1_10 w1_11 w1_12 w1_13 w1_14 el0_1 hE h0 h1 h2 h3 h4 h5 h6 h7 h8 h9 h10 h11
  obtain ⟨R, hR⟩ : ∃ R, R = walkV bs (gC [a1_0, a1_1, a1_2, a1_3, a1_4, a1_5, a1_6, a1_7, a1_8, a1_9, a1_10, a1_11] 9) (gC [a1_0, a1_1, a1_2, a1_3, a1_4, a1_5, a1_6, a1_7, a1_8, a1_9, a1_10, a1_11] 0) a1_12 a1_13 a1_14 := ⟨_, rfl⟩
  obtain ⟨x, hx⟩ : ∃ x, x = toV bs (gC [a1_0, a1_1, a1_2, a1_3, a1_4, a1_5, a1_6, a1_7, a1_8, a1_9, a1_10, a1_11] 9) (gC [a1_0, a1_1, a1_2, a1_3, a1_4, a1_5, a1_6, a1_7, a1_8, a1_9, a1_10, a1_11] 0) a1_12 a1_13 a1_14 := ⟨_, rfl⟩
  have TO := Lib.hid (fun (p g : Nat) W hW => to_at (p := p) (g := g) hc hp hk hv hR hx W hW)
  have RO := Lib.hid (show ∀ (p g : Nat) (W : World), QAt W p g bs → Calls Try.prog 13 #[.pointer (some ⟨p, 0, none⟩), vC [a1_0, a1_1, a1_2, a1_3, a1_4, a1_5, a1_6, a1_7, a1_8, a1_9, a1_10, a1_11], .int .i64 a1_12, .int .i64 a1_13, .int .u64 a1_14] W fun e w' => e = .returned (.tuple #[.int .u64 x, .agg #[.bool R.isf, .int .i64 R.cause, .int .u64 R.val]]) ∧ W.grownBy w' none from fun p g W hW => by rw [hR, hx]; exact rTo_c p g bs [a1_0, a1_1, a1_2, a1_3, a1_4, a1_5, a1_6, a1_7, a1_8, a1_9, a1_10, a1_11] hc a1_12 a1_13 a1_14 hp hk hv W hW)
  have WK := Lib.hid (show ∀ (p g : Nat) (W : World), RAt W p g bs → Calls Try.prog 10 #[.pointer (some ⟨p, 0, none⟩), vC [a1_0, a1_1, a1_2, a1_3, a1_4, a1_5, a1_6, a1_7, a1_8, a1_9, a1_10, a1_11], .int .i64 a1_12, .int .i64 a1_13, .int .u64 a1_14] W fun e w' => e = .returned (.tuple #[.agg #[.int .u64 R.pte, .int .i64 R.lvl, .bool R.glob], .agg #[.bool R.isf, .int .i64 R.cause, .int .u64 R.val]]) ∧ W.grownBy w' none from fun p g W hW => by rw [hR]; exact Walk_c p g bs [a1_0, a1_1, a1_2, a1_3, a1_4, a1_5, a1_6, a1_7, a1_8, a1_9, a1_10, a1_11] hc a1_12 a1_13 a1_14 hp hk hv W hW)
  have RK := Lib.hid (show ∀ (p g : Nat) (W : World), QAt W p g bs → Calls Try.prog 11 #[.pointer (some ⟨p, 0, none⟩), vC [a1_0, a1_1, a1_2, a1_3, a1_4, a1_5, a1_6, a1_7, a1_8, a1_9, a1_10, a1_11], .int .i64 a1_12, .int .i64 a1_13, .int .u64 a1_14] W fun e w' => e = .returned (.tuple #[.agg #[.int .u64 R.pte, .int .i64 R.lvl, .bool R.glob], .agg #[.bool R.isf, .int .i64 R.cause, .int .u64 R.val]]) ∧ W.grownBy w' none from fun p g W hW => by rw [hR]; exact rWalk_c p g bs [a1_0, a1_1, a1_2, a1_3, a1_4, a1_5, a1_6, a1_7, a1_8, a1_9, a1_10, a1_11] hc a1_12 a1_13 a1_14 hp hk hv W hW)
  have PG := Lib.hid (fun W => Paged_c [a1_0, a1_1, a1_2, a1_3, a1_4, a1_5, a1_6, a1_7, a1_8, a1_9, a1_10, a1_11] hc W)
  have RG := Lib.hid (fun W => rPaged_c [a1_0, a1_1, a1_2, a1_3, a1_4, a1_5, a1_6, a1_7, a1_8, a1_9, a1_10, a1_11] hc W)
  have PF := Lib.hid (fun W => PageFault_c a1_13 a1_14 hk W)
  have NA := Lib.hid (fun W => NoAddress_c a1_13 a1_14 hk W)
  have RF := Lib.hid (fun W => rFault_c a1_13 a1_14 hk W)
  have RN := Lib.hid (fun W => rNone_c a1_13 a1_14 hk W)
  unfold vFault at PF NA RF RN
  rw [show vC [a1_0, a1_1, a1_2, a1_3, a1_4, a1_5, a1_6, a1_7, a1_8, a1_9, a1_10, a1_11] = .agg #[.int .u64 a1_0, .int .u64 a1_1, .int .u64 a1_2, .int .u64 a1_3, .int .u64 a1_4, .int .u64 a1_5, .int .u64 a1_6, .int .u64 a1_7, .int .u64 a1_8, .int .u64 a1_9, .int .u64 a1_10, .int .u64 a1_11] from rfl] at TO RO WK RK PG RG
  have E1 := fun W => eql_Fs true (pfC a1_13) a1_14 W
  have E2 := fun W => eql_Fs true (naC a1_13) a1_14 W
  have E3 := fun W => eql_Fs R.isf R.cause R.val W
  have E4 := fun W => eql_Ls R.pte R.lvl R.glob W
  have HE1 := Lib.hid E1
  have HE2 := Lib.hid E2
  have HE3 := Lib.hid E3
  have HE4 := Lib.hid E4
  clear E1 E2 E3 E4
  generalize pfC a1_13 = y1 at *
  generalize naC a1_13 = y2 at *
  generalize pagedV (gC [a1_0, a1_1, a1_2, a1_3, a1_4, a1_5, a1_6, a1_7, a1_8, a1_9, a1_10, a1_11] 9) = pgd at *
  clear hc hR hx hbs
  have HR0 := Lib.hid ((Row.fresh w 24 [.int .u8 a0_0, .slice A0_1 n0_1 k0_1]).alloc (.cells #[.int .u64 a1_0, .int .u64 a1_1, .int .u64 a1_2, .int .u64 a1_3, .int .u64 a1_4, .int .u64 a1_5, .int .u64 a1_6, .int .u64 a1_7, .int .u64 a1_8, .int .u64 a1_9, .int .u64 a1_10, .int .u64 a1_11, .int .i64 a1_12, .int .i64 a1_13, .int .u64 a1_14] 29))
  have HT0 := Lib.hid (Row.fresh (w.alloc (.cells #[.int .u8 a0_0, .slice A0_1 n0_1 k0_1] 24)) 29 [.int .u64 a1_0, .int .u64 a1_1, .int .u64 a1_2, .int .u64 a1_3, .int .u64 a1_4, .int .u64 a1_5, .int .u64 a1_6, .int .u64 a1_7, .int .u64 a1_8, .int .u64 a1_9, .int .u64 a1_10, .int .u64 a1_11, .int .i64 a1_12, .int .i64 a1_13, .int .u64 a1_14])
  rw [show (w.alloc (.cells #[.int .u8 a0_0, .slice A0_1 n0_1 k0_1] 24)).heap.size = w.heap.size + 1 from Array.size_push ..] at HT0
  have HG0 := Lib.hid (gr_alloc (gr_alloc (gr_refl w none) (.cells #[.int .u8 a0_0, .slice A0_1 n0_1 k0_1] 24)) (.cells #[.int .u64 a1_0, .int .u64 a1_1, .int .u64 a1_2, .int .u64 a1_3, .int .u64 a1_4, .int .u64 a1_5, .int .u64 a1_6, .int .u64 a1_7, .int .u64 a1_8, .int .u64 a1_9, .int .u64 a1_10, .int .u64 a1_11, .int .i64 a1_12, .int .i64 a1_13, .int .u64 a1_14] 29))
  unfold I64 at hp hk
  unfold B64 at hv
  go_enter Try.func3, Try.ntmps3
  go_wp2_with fail
  generalize (w.alloc (.cells #[.int .u8 a0_0, .slice A0_1 n0_1 k0_1] 24)).alloc (.cells #[.int .u64 a1_0, .int .u64 a1_1, .int .u64 a1_2, .int .u64 a1_3, .int .u64 a1_4, .int .u64 a1_5, .int .u64 a1_6, .int .u64 a1_7, .int .u64 a1_8, .int .u64 a1_9, .int .u64 a1_10, .int .u64 a1_11, .int .i64 a1_12, .int .i64 a1_13, .int .u64 a1_14] 29) = V at *
  refine (shown11_c _).mono ?_
  rintro e w1 ⟨rfl, hG⟩
  have hR1 := HR0.out.grown hG (by simp)
  have hT1 := HT0.out.grown hG (by simp)
  have hG1 := gr_trans HG0.out hG
  have hE1 := (HE.out.turn (w' := w1) (fun ad had => cell_grown hG1 had (by simp))).more hG1.size
  clear HR0 HT0 HG0 HE hG
  obtain ⟨b, hb⟩ : ∃ b, b = w.heap.size := ⟨_, rfl⟩
  rw [← hb] at hR1 hT1 ⊢
  have HB := Lib.hid hb
  clear hb
  have m0 : w1.cell? ⟨b, 0, none⟩ = some (.int .u8 a0_0) := hR1.cell 0
  have m1 : w1.cell? ⟨b, 1, none⟩ = some (.slice A0_1 n0_1 k0_1) := hR1.cell 1
  have lt := hR1.lt
  clear hR1
  go_wp2_with fail
  refine (BT.out _ hE1).mono ?_
  rintro e w2 ⟨p, g, p', g', rfl, hA, hQ, hG⟩
  have hL : Lw w (b + 1) p g p' g' bs [.int .u64 a1_0, .int .u64 a1_1, .int .u64 a1_2, .int .u64 a1_3, .int .u64 a1_4, .int .u64 a1_5, .int .u64 a1_6, .int .u64 a1_7, .int .u64 a1_8, .int .u64 a1_9, .int .u64 a1_10, .int .u64 a1_11, .int .i64 a1_12, .int .i64 a1_13, .int .u64 a1_14] w2 := ⟨hT1.grown hG (by simp), hA, hQ, gr_trans hG1 hG⟩
  clear hT1 hA hQ hG hG1 hE1 m0 m1 lt BT
  generalize b + 1 = t at *
  obtain ⟨k0, k1, k2, k3, k4, k5, k6, k7, k8, k9, k10, k11, k12, k13, k14⟩ := cells15 hL.tr
  have lt := hL.tr.lt
  have HL := Lib.hid hL
  clear hL
  go_wp2_with fail
  refine (WK.out _ _ _ HL.out.one).mono ?_
  rintro e u1 ⟨rfl, hG⟩
  have hG' := gr_alloc (gr_alloc hG (.cells #[.int .u64 R.pte, .int .i64 R.lvl, .bool R.glob] 36)) (.cells #[.bool R.isf, .int .i64 R.cause, .int .u64 R.val] 38)
  have hL1 := HL.out.keep hG'
  have l1r := (new3 u1 36 (.int .u64 R.pte) (.int .i64 R.lvl) (.bool R.glob)).alloc (.cells #[.bool R.isf, .int .i64 R.cause, .int .u64 R.val] 38)
  have f1r := new3 (u1.alloc (.cells #[.int .u64 R.pte, .int .i64 R.lvl, .bool R.glob] 36)) 38 (.bool R.isf) (.int .i64 R.cause) (.int .u64 R.val)
  rw [show (u1.alloc (.cells #[.int .u64 R.pte, .int .i64 R.lvl, .bool R.glob] 36)).heap.size = u1.heap.size + 1 from Array.size_push ..] at f1r
  clear hG hG' HL lt k0 k1 k2 k3 k4 k5 k6 k7 k8 k9 k10 k11 k12 k13 k14
  go_upto_region 6 with (fail)
  generalize (u1.alloc (.cells #[.int .u64 R.pte, .int .i64 R.lvl, .bool R.glob] 36)).alloc (.cells #[.bool R.isf, .int .i64 R.cause, .int .u64 R.val] 38) = U1 at *
  generalize u1.heap.size = q1 at *
  obtain ⟨k0, k1, k2, k3, k4, k5, k6, k7, k8, k9, k10, k11, k12, k13, k14⟩ := cells15 hL1.tr
  have lt := hL1.tr.lt
  have HL := Lib.hid hL1
  clear hL1
  go_wp2_with fail
  refine (RK.out _ _ _ HL.out.two).mono ?_
  rintro e u2 ⟨rfl, hG⟩
  have hG' := gr_alloc (gr_alloc hG (.cells #[.int .u64 R.pte, .int .i64 R.lvl, .bool R.glob] 36)) (.cells #[.bool R.isf, .int .i64 R.cause, .int .u64 R.val] 38)
  have hL2 := HL.out.keep hG'
  have l2r := (new3 u2 36 (.int .u64 R.pte) (.int .i64 R.lvl) (.bool R.glob)).alloc (.cells #[.bool R.isf, .int .i64 R.cause, .int .u64 R.val] 38)
  have f2r := new3 (u2.alloc (.cells #[.int .u64 R.pte, .int .i64 R.lvl, .bool R.glob] 36)) 38 (.bool R.isf) (.int .i64 R.cause) (.int .u64 R.val)
  rw [show (u2.alloc (.cells #[.int .u64 R.pte, .int .i64 R.lvl, .bool R.glob] 36)).heap.size = u2.heap.size + 1 from Array.size_push ..] at f2r
  replace l1r := l1r.grown hG' (by simp)
  replace f1r := f1r.grown hG' (by simp)
  clear hG hG' HL lt k0 k1 k2 k3 k4 k5 k6 k7 k8 k9 k10 k11 k12 k13 k14
  go_upto_region 7 with (fail)
  generalize (u2.alloc (.cells #[.int .u64 R.pte, .int .i64 R.lvl, .bool R.glob] 36)).alloc (.cells #[.bool R.isf, .int .i64 R.cause, .int .u64 R.val] 38) = U2 at *
  generalize u2.heap.size = q2 at *
  obtain ⟨k0, k1, k2, k3, k4, k5, k6, k7, k8, k9, k10, k11, k12, k13, k14⟩ := cells15 hL2.tr
  have lt := hL2.tr.lt
  have HL := Lib.hid hL2
  clear hL2
  go_wp2_with fail
  refine (TO.out _ _ _ HL.out.one).mono ?_
  rintro e u3 ⟨rfl, hG⟩
  have hG' := gr_alloc hG (.cells #[.bool R.isf, .int .i64 R.cause, .int .u64 R.val] 38)
  have hL3 := HL.out.keep hG'
  have q3r := new3 u3 38 (.bool R.isf) (.int .i64 R.cause) (.int .u64 R.val)
  replace l1r := l1r.grown hG' (by simp)
  replace f1r := f1r.grown hG' (by simp)
  replace l2r := l2r.grown hG' (by simp)
  replace f2r := f2r.grown hG' (by simp)
  clear hG hG' HL lt k0 k1 k2 k3 k4 k5 k6 k7 k8 k9 k10 k11 k12 k13 k14
  go_upto_region 8 with (fail)
  generalize u3.alloc (.cells #[.bool R.isf, .int .i64 R.cause, .int .u64 R.val] 38) = U3 at *
  generalize u3.heap.size = q3 at *
  obtain ⟨k0, k1, k2, k3, k4, k5, k6, k7, k8, k9, k10, k11, k12, k13, k14⟩ := cells15 hL3.tr
  have lt := hL3.tr.lt
  have HL := Lib.hid hL3
  clear hL3
  go_wp2_with fail
  refine (RO.out _ _ _ HL.out.two).mono ?_
  rintro e u4 ⟨rfl, hG⟩
  have hG' := gr_alloc hG (.cells #[.bool R.isf, .int .i64 R.cause, .int .u64 R.val] 38)
  have hL4 := HL.out.keep hG'
  have q4r := new3 u4 38 (.bool R.isf) (.int .i64 R.cause) (.int .u64 R.val)
  replace l1r := l1r.grown hG' (by simp)
  replace f1r := f1r.grown hG' (by simp)
  replace l2r := l2r.grown hG' (by simp)
  replace f2r := f2r.grown hG' (by simp)
  replace q3r := q3r.grown hG' (by simp)
  clear hG hG' HL lt k0 k1 k2 k3 k4 k5 k6 k7 k8 k9 k10 k11 k12 k13 k14
  go_upto_region 9 with (fail)
  generalize u4.alloc (.cells #[.bool R.isf, .int .i64 R.cause, .int .u64 R.val] 38) = U4 at *
  generalize u4.heap.size = q4 at *
  clear TO RO WK RK
  obtain ⟨pt, lv, gb, isf, ca, vl⟩ := R
  simp only at HE3 HE4 l1r f1r l2r f2r q3r q4r
  have ST : Stand w t q1 q2 q3 q4 a1_0 a1_1 a1_2 a1_3 a1_4 a1_5 a1_6 a1_7 a1_8 a1_9 a1_10 a1_11 a1_12 a1_13 a1_14 pt lv ca vl gb isf U4 := ⟨hL4.tr, l1r, f1r, l2r, f2r, q3r, q4r, hL4.gr⟩
  have lt := hL4.tr.lt
  clear hL4 HH0 HH9 l1r f1r l2r f2r q3r q4r
  have E1 := HE1.out
  have E2 := HE2.out
  clear HE1 HE2
  have H9 := nine_of ST
  unfold Nine at H9
  clear ST
  go_wp2_with fail
  go_region_held3 (fun w' => w'.cell? ⟨t, 13, none⟩ = some (.int .i64 a1_13) ∧ w'.cell? ⟨t, 14, none⟩ = some (.int .u64 a1_14) ∧ Stand w t q1 q2 q3 q4 a1_0 a1_1 a1_2 a1_3 a1_4 a1_5 a1_6 a1_7 a1_8 a1_9 a1_10 a1_11 a1_12 a1_13 a1_14 pt lv ca vl gb isf w')
    (first | assumption | (exact Nine.on (gr_drew (gr_refl _ none)) (by assumption)) | (exact Nine.on (by assumption) (by assumption)))
    (first
      | (go_at_call 14; refine (PF.out _).mono ?_; rintro e w' ⟨rfl, hg⟩)
      | (go_at_call 15; refine (RF.out _).mono ?_; rintro e w' ⟨rfl, hg⟩)
      | (go_at_call 16; refine (NA.out _).mono ?_; rintro e w' ⟨rfl, hg⟩)
      | (go_at_call 17; refine (RN.out _).mono ?_; rintro e w' ⟨rfl, hg⟩))
  rename_i hHeld
  have H10 := ten_of hHeld.2.2
  unfold Ten at H10
  clear H9 hHeld E1 E2 PF RF NA RN
  have E3 := HE3.out
  have E4 := HE4.out
  clear HE3 HE4
  go_wp2_with fail
  go_region_held3 (fun w' => w'.cell? ⟨t, 0, none⟩ = some (.int .u64 a1_0) ∧ w'.cell? ⟨t, 1, none⟩ = some (.int .u64 a1_1) ∧ w'.cell? ⟨t, 2, none⟩ = some (.int .u64 a1_2) ∧ w'.cell? ⟨t, 3, none⟩ = some (.int .u64 a1_3) ∧ w'.cell? ⟨t, 4, none⟩ = some (.int .u64 a1_4) ∧ w'.cell? ⟨t, 5, none⟩ = some (.int .u64 a1_5) ∧ w'.cell? ⟨t, 6, none⟩ = some (.int .u64 a1_6) ∧ w'.cell? ⟨t, 7, none⟩ = some (.int .u64 a1_7) ∧ w'.cell? ⟨t, 8, none⟩ = some (.int .u64 a1_8) ∧ w'.cell? ⟨t, 9, none⟩ = some (.int .u64 a1_9) ∧ w'.cell? ⟨t, 10, none⟩ = some (.int .u64 a1_10) ∧ w'.cell? ⟨t, 11, none⟩ = some (.int .u64 a1_11) ∧ w'.cell? ⟨q1, 0, none⟩ = some (.int .u64 pt) ∧ w'.cell? ⟨q1, 1, none⟩ = some (.int .i64 lv) ∧ w'.cell? ⟨q1, 2, none⟩ = some (.bool gb) ∧ w'.cell? ⟨q1 + 1, 0, none⟩ = some (.bool isf) ∧ w'.cell? ⟨q1 + 1, 1, none⟩ = some (.int .i64 ca) ∧ w'.cell? ⟨q1 + 1, 2, none⟩ = some (.int .u64 vl) ∧ w'.cell? ⟨q2, 0, none⟩ = some (.int .u64 pt) ∧ w'.cell? ⟨q2, 1, none⟩ = some (.int .i64 lv) ∧ w'.cell? ⟨q2, 2, none⟩ = some (.bool gb) ∧ w'.cell? ⟨q2 + 1, 0, none⟩ = some (.bool isf) ∧ w'.cell? ⟨q2 + 1, 1, none⟩ = some (.int .i64 ca) ∧ w'.cell? ⟨q2 + 1, 2, none⟩ = some (.int .u64 vl) ∧ w'.cell? ⟨q3, 0, none⟩ = some (.bool isf) ∧ w'.cell? ⟨q3, 1, none⟩ = some (.int .i64 ca) ∧ w'.cell? ⟨q3, 2, none⟩ = some (.int .u64 vl) ∧ w'.cell? ⟨q4, 0, none⟩ = some (.bool isf) ∧ w'.cell? ⟨q4, 1, none⟩ = some (.int .i64 ca) ∧ w'.cell? ⟨q4, 2, none⟩ = some (.int .u64 vl) ∧ Stand w t q1 q2 q3 q4 a1_0 a1_1 a1_2 a1_3 a1_4 a1_5 a1_6 a1_7 a1_8 a1_9 a1_10 a1_11 a1_12 a1_13 a1_14 pt lv ca vl gb isf w')
    (first | assumption | (exact Ten.on (gr_drew (gr_refl _ none)) (by assumption)) | (exact Ten.on (by assumption) (by assumption)))
    (first
      | (go_at_call 18; refine (PG.out _).mono ?_; rintro e w' ⟨rfl, hg⟩)
      | (go_at_call 19; refine (RG.out _).mono ?_; rintro e w' ⟨rfl, hg⟩))
  rename_i hHeld
  have hBe := (Ten.st hHeld).gr
  clear H10 hHeld
  go_wp2_with fail
  go_ret
  exact ⟨rfl, gr_below hBe⟩

theorem own : ownKnob Try.prog.godebug = none := by kernel_rfl
theorem laidOut : laidOutB Try.prog = true := by kernel_rfl

set_option maxRecDepth 100000 in
theorem lifted (os : Os) (started : os.Started) (H : Type) (enc : TypeId × Value → H) :
    ReturnsInHanded {} Try.checked os 3 .any (Rows.walkAllSpec.pre6 enc Try.prog Try.f3 Rows.walkAllRow.domain false) (Rows.walkAllSpec.post enc Try.prog Try.f3 false true false false) := by
  refine returnsInHanded_of_change (C := Try.checked) own started (by kernel_rfl) Try.func3
    (ChangeSpec.witness6 (enc := enc) (C := Try.checked) false ⟨#[], #[.agg #[.int .u8 0, .slice none 0 0], .agg #[.int .u64 0, .int .u64 0, .int .u64 0, .int .u64 0, .int .u64 0, .int .u64 0, .int .u64 0, .int .u64 0, .int .u64 0, .int .u64 0, .int .u64 0, .int .u64 0, .int .i64 0, .int .i64 0, .int .u64 0]], []⟩ 8 (by kernel_rfl) (by kernel_rfl) (by kernel_rfl) (by kernel_rfl)) ?_
  intro W base args ds gs before hval0 hW hcnd _
  have hval : ∀ (j : Nat) t v, Try.f3.params[j]? = some t → args[j]? = some v → Value.okWide Try.prog W .any base t v := hval0
  have hW' := hW
  obtain ⟨p, q, hA0, hV, rfl, hfz, hnd⟩ := hW
  have hA : DataW.TrodAll enc Try.prog W 0 (fun _ => true) true Try.f3.params.toList args.toList ds p := hA0
  rw [Try.params3] at hA hval
  obtain ⟨v0, vs0, d0, ds0, p0, q0, hargs, rfl, rfl, h0, r0⟩ := trodAll_cons hA
  obtain ⟨v1, vs1, d1, ds1, p1, q1, rfl, rfl, rfl, h1, r1⟩ := trodAll_cons r0
  obtain ⟨rfl, rfl, rfl⟩ := trodAll_nil r1
  obtain rfl : args = #[v0, v1] := by cases args; simp_all
  obtain ⟨rfl, rfl⟩ := trodVars_none hV
  clear hA0 hval0 hA
  have k0 := h0
  have lt0 : ∀ x ∈ p0, x.block < W.heap.size := by obtain ⟨m, hm⟩ := k0; exact DataW.trod_lt m _ _ _ hm
  obtain ⟨xs0, rfl, l0, m0, f0⟩ := Op.open_struct Try.underlying24 (hval 0 24 v0 rfl rfl) h0
  rw [show Try.prog.cellsOf 24 = 2 from by kernel_rfl] at l0
  obtain _ | ⟨c0_0, xs0⟩ := xs0
  · simp at l0
  obtain _ | ⟨c0_1, xs0⟩ := xs0
  · simp at l0
  obtain _ | ⟨_, _⟩ := xs0
  rotate_left
  · simp at l0
  clear h0
  obtain ⟨zf0_0, gf0_0⟩ := f0 0 _ rfl
  replace gf0_0 : DataW.trod enc Try.prog W 0 (fun _ => true) true m0 5 [c0_0] = some zf0_0 := gf0_0
  obtain ⟨a0_0, e0_0, _, w0_0⟩ := DataW.trod_int Try.underlying5 gf0_0
  simp at e0_0; subst e0_0
  obtain ⟨zf0_1, gf0_1⟩ := f0 1 _ rfl
  replace gf0_1 : DataW.trod enc Try.prog W 0 (fun _ => true) true m0 22 [c0_1] = some zf0_1 := gf0_1
  obtain ⟨A0_1, n0_1, k0_1, e0_1, mc0_1, cc0_1, raw0_1⟩ := Op.read_items Try.underlying22 Try.underlying71 (by kernel_rfl) (by kernel_rfl) (by decide) gf0_1
  subst e0_1
  have el0_1 : ∀ i, i < n0_1 → ∃ ad, A0_1 = some ad ∧ ad.block < W.heap.size ∧ ∃ (x0 : Int) (x1 : Int), (W.cell? (ad.add (i * 2 + 0)) = some (.int .u32 x0) ∧ (Lit.int .u32 x0).wf = true) ∧ (W.cell? (ad.add (i * 2 + 1)) = some (.int .u64 x1) ∧ (Lit.int .u64 x1).wf = true) := by
    intro i hi
    obtain ⟨ad, hA, hb, n, hf⟩ := raw0_1 i hi
    obtain ⟨u0, yy0, hu0, ht0⟩ := hf 0 _ rfl
    obtain ⟨x0, ee0, _, ww0⟩ := DataW.trod_int Try.underlying69 ht0; simp only [List.cons.injEq, and_true] at ee0; subst ee0
    obtain ⟨u1, yy1, hu1, ht1⟩ := hf 1 _ rfl
    obtain ⟨x1, ee1, _, ww1⟩ := DataW.trod_int Try.underlying25 ht1; simp only [List.cons.injEq, and_true] at ee1; subst ee1
    exact ⟨ad, hA, hb, x0, x1, ⟨hu0, ww0⟩, ⟨hu1, ww1⟩⟩
  have k1 := h1
  have lt1 : ∀ x ∈ p1, x.block < W.heap.size := by obtain ⟨m, hm⟩ := k1; exact DataW.trod_lt m _ _ _ hm
  obtain ⟨xs1, rfl, l1, m1, f1⟩ := Op.open_struct Try.underlying29 (hval 1 29 v1 rfl rfl) h1
  rw [show Try.prog.cellsOf 29 = 15 from by kernel_rfl] at l1
  obtain _ | ⟨c1_0, xs1⟩ := xs1
  · simp at l1
  obtain _ | ⟨c1_1, xs1⟩ := xs1
  · simp at l1
  obtain _ | ⟨c1_2, xs1⟩ := xs1
  · simp at l1
  obtain _ | ⟨c1_3, xs1⟩ := xs1
  · simp at l1
  obtain _ | ⟨c1_4, xs1⟩ := xs1
  · simp at l1
  obtain _ | ⟨c1_5, xs1⟩ := xs1
  · simp at l1
  obtain _ | ⟨c1_6, xs1⟩ := xs1
  · simp at l1
  obtain _ | ⟨c1_7, xs1⟩ := xs1
  · simp at l1
  obtain _ | ⟨c1_8, xs1⟩ := xs1
  · simp at l1
  obtain _ | ⟨c1_9, xs1⟩ := xs1
  · simp at l1
  obtain _ | ⟨c1_10, xs1⟩ := xs1
  · simp at l1
  obtain _ | ⟨c1_11, xs1⟩ := xs1
  · simp at l1
  obtain _ | ⟨c1_12, xs1⟩ := xs1
  · simp at l1
  obtain _ | ⟨c1_13, xs1⟩ := xs1
  · simp at l1
  obtain _ | ⟨c1_14, xs1⟩ := xs1
  · simp at l1
  obtain _ | ⟨_, _⟩ := xs1
  rotate_left
  · simp at l1
  clear h1
  obtain ⟨zf1_0, gf1_0⟩ := f1 0 _ rfl
  replace gf1_0 : DataW.trod enc Try.prog W 0 (fun _ => true) true m1 27 [c1_0, c1_1, c1_2, c1_3, c1_4, c1_5, c1_6, c1_7, c1_8, c1_9, c1_10, c1_11] = some zf1_0 := gf1_0
  obtain ⟨mf1_0, ff1_0⟩ := Op.read_struct Try.underlying27 gf1_0
  obtain ⟨zff1_0_0, gff1_0_0⟩ := ff1_0 0 _ rfl
  replace gff1_0_0 : DataW.trod enc Try.prog W 0 (fun _ => true) true mf1_0 25 [c1_0] = some zff1_0_0 := gff1_0_0
  obtain ⟨a1_0, e1_0, _, w1_0⟩ := DataW.trod_int Try.underlying25 gff1_0_0
  simp at e1_0; subst e1_0
  obtain ⟨zff1_0_1, gff1_0_1⟩ := ff1_0 1 _ rfl
  replace gff1_0_1 : DataW.trod enc Try.prog W 0 (fun _ => true) true mf1_0 25 [c1_1] = some zff1_0_1 := gff1_0_1
  obtain ⟨a1_1, e1_1, _, w1_1⟩ := DataW.trod_int Try.underlying25 gff1_0_1
  simp at e1_1; subst e1_1
  obtain ⟨zff1_0_2, gff1_0_2⟩ := ff1_0 2 _ rfl
  replace gff1_0_2 : DataW.trod enc Try.prog W 0 (fun _ => true) true mf1_0 25 [c1_2] = some zff1_0_2 := gff1_0_2
  obtain ⟨a1_2, e1_2, _, w1_2⟩ := DataW.trod_int Try.underlying25 gff1_0_2
  simp at e1_2; subst e1_2
  obtain ⟨zff1_0_3, gff1_0_3⟩ := ff1_0 3 _ rfl
  replace gff1_0_3 : DataW.trod enc Try.prog W 0 (fun _ => true) true mf1_0 25 [c1_3] = some zff1_0_3 := gff1_0_3
  obtain ⟨a1_3, e1_3, _, w1_3⟩ := DataW.trod_int Try.underlying25 gff1_0_3
  simp at e1_3; subst e1_3
  obtain ⟨zff1_0_4, gff1_0_4⟩ := ff1_0 4 _ rfl
  replace gff1_0_4 : DataW.trod enc Try.prog W 0 (fun _ => true) true mf1_0 25 [c1_4] = some zff1_0_4 := gff1_0_4
  obtain ⟨a1_4, e1_4, _, w1_4⟩ := DataW.trod_int Try.underlying25 gff1_0_4
  simp at e1_4; subst e1_4
  obtain ⟨zff1_0_5, gff1_0_5⟩ := ff1_0 5 _ rfl
  replace gff1_0_5 : DataW.trod enc Try.prog W 0 (fun _ => true) true mf1_0 25 [c1_5] = some zff1_0_5 := gff1_0_5
  obtain ⟨a1_5, e1_5, _, w1_5⟩ := DataW.trod_int Try.underlying25 gff1_0_5
  simp at e1_5; subst e1_5
  obtain ⟨zff1_0_6, gff1_0_6⟩ := ff1_0 6 _ rfl
  replace gff1_0_6 : DataW.trod enc Try.prog W 0 (fun _ => true) true mf1_0 25 [c1_6] = some zff1_0_6 := gff1_0_6
  obtain ⟨a1_6, e1_6, _, w1_6⟩ := DataW.trod_int Try.underlying25 gff1_0_6
  simp at e1_6; subst e1_6
  obtain ⟨zff1_0_7, gff1_0_7⟩ := ff1_0 7 _ rfl
  replace gff1_0_7 : DataW.trod enc Try.prog W 0 (fun _ => true) true mf1_0 25 [c1_7] = some zff1_0_7 := gff1_0_7
  obtain ⟨a1_7, e1_7, _, w1_7⟩ := DataW.trod_int Try.underlying25 gff1_0_7
  simp at e1_7; subst e1_7
  obtain ⟨zff1_0_8, gff1_0_8⟩ := ff1_0 8 _ rfl
  replace gff1_0_8 : DataW.trod enc Try.prog W 0 (fun _ => true) true mf1_0 25 [c1_8] = some zff1_0_8 := gff1_0_8
  obtain ⟨a1_8, e1_8, _, w1_8⟩ := DataW.trod_int Try.underlying25 gff1_0_8
  simp at e1_8; subst e1_8
  obtain ⟨zff1_0_9, gff1_0_9⟩ := ff1_0 9 _ rfl
  replace gff1_0_9 : DataW.trod enc Try.prog W 0 (fun _ => true) true mf1_0 25 [c1_9] = some zff1_0_9 := gff1_0_9
  obtain ⟨a1_9, e1_9, _, w1_9⟩ := DataW.trod_int Try.underlying25 gff1_0_9
  simp at e1_9; subst e1_9
  obtain ⟨zff1_0_10, gff1_0_10⟩ := ff1_0 10 _ rfl
  replace gff1_0_10 : DataW.trod enc Try.prog W 0 (fun _ => true) true mf1_0 25 [c1_10] = some zff1_0_10 := gff1_0_10
  obtain ⟨a1_10, e1_10, _, w1_10⟩ := DataW.trod_int Try.underlying25 gff1_0_10
  simp at e1_10; subst e1_10
  obtain ⟨zff1_0_11, gff1_0_11⟩ := ff1_0 11 _ rfl
  replace gff1_0_11 : DataW.trod enc Try.prog W 0 (fun _ => true) true mf1_0 25 [c1_11] = some zff1_0_11 := gff1_0_11
  obtain ⟨a1_11, e1_11, _, w1_11⟩ := DataW.trod_int Try.underlying25 gff1_0_11
  simp at e1_11; subst e1_11
  obtain ⟨zf1_1, gf1_1⟩ := f1 1 _ rfl
  replace gf1_1 : DataW.trod enc Try.prog W 0 (fun _ => true) true m1 3 [c1_12] = some zf1_1 := gf1_1
  obtain ⟨a1_12, e1_12, _, w1_12⟩ := DataW.trod_int Try.underlying3 gf1_1
  simp at e1_12; subst e1_12
  obtain ⟨zf1_2, gf1_2⟩ := f1 2 _ rfl
  replace gf1_2 : DataW.trod enc Try.prog W 0 (fun _ => true) true m1 3 [c1_13] = some zf1_2 := gf1_2
  obtain ⟨a1_13, e1_13, _, w1_13⟩ := DataW.trod_int Try.underlying3 gf1_2
  simp at e1_13; subst e1_13
  obtain ⟨zf1_3, gf1_3⟩ := f1 3 _ rfl
  replace gf1_3 : DataW.trod enc Try.prog W 0 (fun _ => true) true m1 25 [c1_14] = some zf1_3 := gf1_3
  obtain ⟨a1_14, e1_14, _, w1_14⟩ := DataW.trod_int Try.underlying25 gf1_3
  simp at e1_14; subst e1_14
  refine (walk W a0_0 w0_0 A0_1 n0_1 k0_1 mc0_1 cc0_1 el0_1 a1_0 w1_0 a1_1 w1_1 a1_2 w1_2 a1_3 w1_3 a1_4 w1_4 a1_5 w1_5 a1_6 w1_6 a1_7 w1_7 a1_8 w1_8 a1_9 w1_9 a1_10 w1_10 a1_11 w1_11 a1_12 w1_12 a1_13 w1_13 a1_14 w1_14).mono fun e W' ⟨he, bel⟩ => ?_
  subst he
  exact ⟨_, rfl, _, _, _, [], _, [], hW', trodAll_mk1 (shut_bool Try.underlying4 _), (trodAll_cons_mk (Below.trod laidOut (by kernel_rfl) (of_decide_eq_true (by kernel_rfl)) k0 bel lt0) (trodAll_cons_mk (Below.trod laidOut (by kernel_rfl) (of_decide_eq_true (by kernel_rfl)) k1 bel lt1) trodAll_mk0)), rfl, bel.frame _, fun h => by cases h⟩

theorem over : Rows.walkAllRow.holds Try.pinned (OpenSpec.ofChange Rows.walkAllSpec) :=
  OpenClaim.holds_of_wide 3 Try.f3 rfl rfl rfl rfl rfl rfl rfl ⟨rfl, rfl, rfl, rfl, rfl⟩ rfl rfl rfl rfl rfl (by kernel_rfl) Try.func3 (by kernel_rfl)
    (of_decide_eq_true (by kernel_rfl)) (by unfold Func.isWrapper; first | (rw [if_pos (by decide +kernel)]; kernel_rfl) | (rw [if_neg (by decide +kernel)]; exact ⟨rfl, rfl⟩))
    (fun os started H enc _ => lifted os started H enc)

/-- The statement. -/
theorem proved : Rows.WalkAllSaid := over
#print axioms proved

end Go.Proofs.Ytaeloplmcinagaa.walkAll
