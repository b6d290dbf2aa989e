/-
  Proved: for any memory, any things that are done, and any number that is stored, the law TlbFences returns true: behind a flush of an address what is found is global and the flush was of an asid; behind a flush of all an address is where a walk leads.
  Conditions: none beyond the statement's own.
-/
import Derived.Test.YtkfmcbhoendocaaRows
import Derived.Test.YtkfmcbhoendocaaLayO
import Derived.Lib.Hide
import Derived.Deep.Cut
import Derived.Deep.CutBlock
import Derived.Test.YtkfmcbhoendocaaTlbO
import Derived.Test.YtkfmcbhoendocaaTlbU
import Derived.Test.YtkfmcbhoendocaaTlbW
import Derived.Test.YtkfmcbhoendocaaWalkQ
import Derived.Test.YtkfmcbhoendocaaWalkR
import Derived.Test.YtkfmcbhoendocaaWalkN
import Derived.StillTailTactics
import Derived.Deep.RegionHeld3
namespace Go.Proofs.Ytkfmcbhoendocaa.tlbFences
open Go Go.ChangeShapes Go.WideShapes Go.ChangeAt Go.RowKit W M D A C P K
set_option linter.unusedVariables false
set_option linter.unusedSimpArgs false

/-- What stands at the end: two faults, what is done. -/
structure Fin (w0 : World) (q1 q2 t : Nat) (l : List Value) (a : Bool) (b c : Int) (w : World) : Prop where
  one : Row w q1 48 [.bool a, .int .i64 b, .int .u64 c]
  two : Row w q2 48 [.bool a, .int .i64 b, .int .u64 c]
  opr : Row w t 54 l
  gr : w0.grownBy w none
section
variable {w0 w w' : World} {q1 q2 t : Nat} {l : List Value} {a : Bool} {b c va hw : Int}
theorem Fin.on (h : Fin w0 q1 q2 t l a b c w) (hg : w.grownBy w' none) : Fin w0 q1 q2 t l a b c w' := ⟨h.one.grown hg (by simp), h.two.grown hg (by simp), h.opr.grown hg (by simp), gr_trans h.gr hg⟩
def Eight (w0 : World) (q1 q2 t : Nat) (l : List Value) (a : Bool) (b c va hw : Int) (w : World) : Prop :=
  w.cell? ⟨q1, 0, none⟩ = some (.bool a) ∧ w.cell? ⟨q1, 1, none⟩ = some (.int .i64 b) ∧ w.cell? ⟨q1, 2, none⟩ = some (.int .u64 c) ∧ w.cell? ⟨q2, 0, none⟩ = some (.bool a) ∧ w.cell? ⟨q2, 1, none⟩ = some (.int .i64 b) ∧ w.cell? ⟨q2, 2, none⟩ = some (.int .u64 c) ∧ w.cell? ⟨t, 1, none⟩ = some (.int .u64 va) ∧ w.cell? ⟨t, 21, none⟩ = some (.int .i64 hw) ∧ Fin w0 q1 q2 t l a b c w
theorem Eight.fin (h : Eight w0 q1 q2 t l a b c va hw w) : Fin w0 q1 q2 t l a b c w := h.2.2.2.2.2.2.2.2
theorem fin_of (h : Fin w0 q1 q2 t l a b c w) (h1 : l[1]? = some (.int .u64 va)) (h2 : l[21]? = some (.int .i64 hw)) : Eight w0 q1 q2 t l a b c va hw w :=
  ⟨h.one.cell 0, h.one.cell 1, h.one.cell 2, h.two.cell 0, h.two.cell 1, h.two.cell 2, (h.opr.cell 1).trans h1, (h.opr.cell 21).trans h2, h⟩
theorem cells2o {g : Nat} {T0 : TypeId} {kd va asi pt lv : Int} {gl al ev : Bool} {c0 c1 c2 c3 c4 c5 c6 c7 c8 c9 c10 c11 pr hw ata xx : Int} (h : Row w g T0 (opC ⟨kd, va, asi, pt, lv, gl, al, ev, [c0, c1, c2, c3, c4, c5, c6, c7, c8, c9, c10, c11], pr, hw, ata, xx⟩)) : w.cell? ⟨g, 1, none⟩ = some (.int .u64 va) ∧ w.cell? ⟨g, 21, none⟩ = some (.int .i64 hw) := ⟨h.cell 1, h.cell 21⟩
theorem Eight.on (h1 : l[1]? = some (.int .u64 va)) (h2 : l[21]? = some (.int .i64 hw)) (hg : w.grownBy w' none) (h : Eight w0 q1 q2 t l a b c va hw w) : Eight w0 q1 q2 t l a b c va hw w' := fin_of (h.fin.on hg) h1 h2
end
set_option maxRecDepth 100000 in
set_option maxHeartbeats 8000000 in
theorem walk (w : World) (a0_0 : Int) (w0_0 : (Lit.int .u8 a0_0).wf = true) (A0_1 : Option Addr) (n0_1 k0_1 : Nat) (mc0_1 : n0_1 ≤ k0_1) (cc0_1 : k0_1 ≤ 9223372036854775807) (el0_1 : ∀ i, i < n0_1 → ∃ ad, A0_1 = some ad ∧ ad.block < w.heap.size ∧ ∃ (x0 : Int) (x1 : Int), (w.cell? (ad.add (i * 2 + 0)) = some (.int .u32 x0) ∧ (Lit.int .u32 x0).wf = true) ∧ (w.cell? (ad.add (i * 2 + 1)) = some (.int .u64 x1) ∧ (Lit.int .u64 x1).wf = true)) (A1 : Option Addr) (m1 c1 : Nat) (mc1 : m1 ≤ c1) (cc1 : c1 ≤ 9223372036854775807) (el1 : ∀ i, i < m1 → ∃ ad, A1 = some ad ∧ ad.block < w.heap.size ∧ ∃ (x0 : Int) (x1 : Int) (x2 : Int) (x3 : Int) (x4 : Int) (x5 : Bool) (x6 : Bool) (x7 : Bool) (x8 : Int) (x9 : Int) (x10 : Int) (x11 : Int) (x12 : Int) (x13 : Int) (x14 : Int) (x15 : Int) (x16 : Int) (x17 : Int) (x18 : Int) (x19 : Int) (x20 : Int) (x21 : Int) (x22 : Int) (x23 : Int), (w.cell? (ad.add (i * 24 + 0)) = some (.int .u8 x0) ∧ (Lit.int .u8 x0).wf = true) ∧ (w.cell? (ad.add (i * 24 + 1)) = some (.int .u64 x1) ∧ (Lit.int .u64 x1).wf = true) ∧ (w.cell? (ad.add (i * 24 + 2)) = some (.int .u64 x2) ∧ (Lit.int .u64 x2).wf = true) ∧ (w.cell? (ad.add (i * 24 + 3)) = some (.int .u64 x3) ∧ (Lit.int .u64 x3).wf = true) ∧ (w.cell? (ad.add (i * 24 + 4)) = some (.int .i64 x4) ∧ (Lit.int .i64 x4).wf = true) ∧ (w.cell? (ad.add (i * 24 + 5)) = some (.bool x5)) ∧ (w.cell? (ad.add (i * 24 + 6)) = some (.bool x6)) ∧ (w.cell? (ad.add (i * 24 + 7)) = some (.bool x7)) ∧ (w.cell? (ad.add (i * 24 + 8)) = some (.int .u64 x8) ∧ (Lit.int .u64 x8).wf = true) ∧ (w.cell? (ad.add (i * 24 + 9)) = some (.int .u64 x9) ∧ (Lit.int .u64 x9).wf = true) ∧ (w.cell? (ad.add (i * 24 + 10)) = some (.int .u64 x10) ∧ (Lit.int .u64 x10).wf = true) ∧ (w.cell? (ad.add (i * 24 + 11)) = some (.int .u64 x11) ∧ (Lit.int .u64 x11).wf = true) ∧ (w.cell? (ad.add (i * 24 + 12)) = some (.int .u64 x12) ∧ (Lit.int .u64 x12).wf = true) ∧ (w.cell? (ad.add (i * 24 + 13)) = some (.int .u64 x13) ∧ (Lit.int .u64 x13).wf = true) ∧ (w.cell? (ad.add (i * 24 + 14)) = some (.int .u64 x14) ∧ (Lit.int .u64 x14).wf = true) ∧ (w.cell? (ad.add (i * 24 + 15)) = some (.int .u64 x15) ∧ (Lit.int .u64 x15).wf = true) ∧ (w.cell? (ad.add (i * 24 + 16)) = some (.int .u64 x16) ∧ (Lit.int .u64 x16).wf = true) ∧ (w.cell? (ad.add (i * 24 + 17)) = some (.int .u64 x17) ∧ (Lit.int .u64 x17).wf = true) ∧ (w.cell? (ad.add (i * 24 + 18)) = some (.int .u64 x18) ∧ (Lit.int .u64 x18).wf = true) ∧ (w.cell? (ad.add (i * 24 + 19)) = some (.int .u64 x19) ∧ (Lit.int .u64 x19).wf = true) ∧ (w.cell? (ad.add (i * 24 + 20)) = some (.int .i64 x20) ∧ (Lit.int .i64 x20).wf = true) ∧ (w.cell? (ad.add (i * 24 + 21)) = some (.int .i64 x21) ∧ (Lit.int .i64 x21).wf = true) ∧ (w.cell? (ad.add (i * 24 + 22)) = some (.int .u32 x22) ∧ (Lit.int .u32 x22).wf = true) ∧ (w.cell? (ad.add (i * 24 + 23)) = some (.int .u64 x23) ∧ (Lit.int .u64 x23).wf = true)) (a2_0 : Int) (w2_0 : (Lit.int .u32 a2_0).wf = true) (a2_1 : Int) (w2_1 : (Lit.int .u64 a2_1).wf = true) :
    Calls Try.prog 5 #[.agg #[.int .u8 a0_0, .slice A0_1 n0_1 k0_1], .slice A1 m1 c1, .agg #[.int .u32 a2_0, .int .u64 a2_1]] w fun e w' => e = .returned (.bool true) ∧ Below w.heap.size w w' := by
  have ha : 0 ≤ a0_0 ∧ a0_0 ≤ 255 := bounds_u8 w0_0
  have hy0 := bounds_u32 w2_0
  have hy1 : B64 a2_1 := bounds_u64 w2_1
  obtain ⟨f, h, hE⟩ := elems_of el0_1
  obtain ⟨bs, hbs⟩ : ∃ bs, bs = fillV f h (min n0_1 64) (List.replicate ((1 + a0_0 % 16).toNat * 4096) 0) := ⟨_, rfl⟩
  have BT := Lib.hid (fun W hW => both2_c a0_0 ha A0_1 n0_1 k0_1 mc0_1 cc0_1 f h W hW)
  rw [← hbs] at BT
  have HE := Lib.hid hE
  obtain ⟨F, hOps⟩ := ops_of el1
  have HO := Lib.hid hOps
  have NW := Lib.hid (fun W => TNew_c 8 (by unfold I64; omega) W)
  rw [show T.mostV 8 = 8 from rfl] at NW
  have LN := Lib.hid (fun B p v n L W hh => Len_c B p 8 v n L W hh)
  clear hbs w0_0 el0_1 el1 hE hOps w2_0 w2_1
  have HR0 := Lib.hid ((Row.fresh w 36 [.int .u8 a0_0, .slice A0_1 n0_1 k0_1]).alloc (.cells #[.int .u32 a2_0, .int .u64 a2_1] 40))
  have HY0 := Lib.hid (fresh_two w (.cells #[.int .u8 a0_0, .slice A0_1 n0_1 k0_1] 36) 40 [.int .u32 a2_0, .int .u64 a2_1])
  have HG0 := Lib.hid (gr_alloc (gr_alloc (gr_refl w none) (.cells #[.int .u8 a0_0, .slice A0_1 n0_1 k0_1] 36)) (.cells #[.int .u32 a2_0, .int .u64 a2_1] 40))
  go_enter Try.func5, Try.ntmps5
  go_wp2_with fail
  refine (shown12_c _).mono ?_
  rintro e w1 ⟨rfl, hG⟩
  have hR1 := HR0.out.grown hG (by simp)
  have hY1 := HY0.out.grown hG (by simp)
  have hG1 := gr_trans HG0.out hG
  have hE1 := (HE.out.turn (w' := w1) (fun ad had => cell_grown hG1 had (by simp))).more hG1.size
  clear HR0 HY0 HG0 HE hG
  obtain ⟨b, hb⟩ : ∃ b, b = w.heap.size := ⟨_, rfl⟩
  rw [← hb] at hR1 hY1 ⊢
  have HB := Lib.hid hb
  clear hb
  have m0 : w1.cell? ⟨b, 0, none⟩ = some (.int .u8 a0_0) := hR1.cell 0
  have m1 : w1.cell? ⟨b, 1, none⟩ = some (.slice A0_1 n0_1 k0_1) := hR1.cell 1
  have lt := hR1.lt
  go_wp2_with fail
  refine (BT.out _ hE1).mono ?_
  rintro e w2 ⟨pm, gm, p', g', rfl, hA, -, hG, hord⟩
  have HGM := Lib.hid (show w.heap.size ≤ gm by have := hG1.size; omega)
  have hT2 := hY1.grown hG (by simp)
  have hG2 := gr_trans hG1 hG
  clear hR1 hY1 hG hG1 hE1 m0 m1 lt BT hord
  go_wp2_with fail
  refine (NW.out _).mono ?_
  rintro e w3 ⟨rfl, hN, hG⟩
  have hL : Lt w 40 (b + 1) [.int .u32 a2_0, .int .u64 a2_1] pm gm bs w2.heap.size 8 (.slice none 0 0) 0 [] w3 := ⟨hT2.grown hG (by simp), hA.kept hG, held_less hN hG2.size, gr_trans hG2 hG⟩
  clear hT2 hA hN hG hG2 NW
  generalize w2.heap.size = p at *
  have HL := Lib.hid hL
  clear hL
  by_cases hm1 : m1 = 0
  · have hmz : ((m1 : Int) == 0) = true := by simp [hm1]
    have HBE := Lib.hid (gr_below HL.out.gr)
    clear HL hm1
    go_wp2_with fail
    go_ret
    exact ⟨rfl, HBE.out⟩
  have hmz : ((m1 : Int) == 0) = false := by simp [hm1]
  go_upto_block 0 with (fail)
  go_cut [11] from 52 to 84 (fun i wc => ∃ (v : Value) (n : Int) (L : List T.Lf), Lt w 40 (b + 1) [.int .u32 a2_0, .int .u64 a2_1] pm gm bs p 8 v n L wc)
  case first =>
    have HMM := Lib.hid (And.intro hm1 hmz)
    clear hm1 hmz
    go_wp2_with fail
    go_loopw [11] (fun i wr => ∃ (j : Nat) (v : Value) (n : Int) (L : List T.Lf), i = .int .i64 j ∧ j ≤ m1 ∧ j ≤ 40 ∧ Lt w 40 (b + 1) [.int .u32 a2_0, .int .u64 a2_1] pm gm bs p 8 v n L wr) (fun i _ => 40 - (intOf i).toNat)
    case atStart => exact ⟨0, _, _, _, rfl, by omega, by omega, HL.out⟩
    case round =>
      clear HL HMM
      obtain ⟨j, v, n, L, rfl, hj, hj40, hL⟩ := hrel
      by_cases hlt : j < m1
      · by_cases h40 : j < 40
        · obtain ⟨ad, rfl, hadb, hcell, hfine⟩ := (HO.out.go hL.gr) j hlt
          have hadw : ad.block < wr.heap.size := by have := hL.gr.size; omega
          obtain ⟨⟨kd, va, asi, pt, lv, gl, al, ev, cc, pr, hw, ata, xx⟩, ho⟩ : ∃ o, o = F j := ⟨_, rfl⟩
          rw [← ho] at hcell hfine
          obtain ⟨hkd, hva, has, hpt, hlv, hcc, hpr, hhw, hata, hxx⟩ := hfine
          simp only at hkd hva has hpt hlv hcc hpr hhw hata hxx
          obtain ⟨c0, c1, c2, c3, c4, c5, c6, c7, c8, c9, c10, c11, rfl⟩ := twelve hcc.1
          clear ho
          have u1 : wr.cell? ⟨(ad.add (j * 24)).block, (ad.add (j * 24)).off + 1, none⟩ = some (.int .u64 va) := by rw [fld1]; exact hcell 1 (by omega)
          have u8 : wr.cell? ⟨(ad.add (j * 24)).block, (ad.add (j * 24)).off + 8, none⟩ = some (.int .u64 c0) := by rw [fld1]; exact hcell 8 (by omega)
          have u9 : wr.cell? ⟨(ad.add (j * 24)).block, (ad.add (j * 24)).off + 9, none⟩ = some (.int .u64 c1) := by rw [fld1]; exact hcell 9 (by omega)
          have u10 : wr.cell? ⟨(ad.add (j * 24)).block, (ad.add (j * 24)).off + 10, none⟩ = some (.int .u64 c2) := by rw [fld1]; exact hcell 10 (by omega)
          have u11 : wr.cell? ⟨(ad.add (j * 24)).block, (ad.add (j * 24)).off + 11, none⟩ = some (.int .u64 c3) := by rw [fld1]; exact hcell 11 (by omega)
          have u12 : wr.cell? ⟨(ad.add (j * 24)).block, (ad.add (j * 24)).off + 12, none⟩ = some (.int .u64 c4) := by rw [fld1]; exact hcell 12 (by omega)
          have u13 : wr.cell? ⟨(ad.add (j * 24)).block, (ad.add (j * 24)).off + 13, none⟩ = some (.int .u64 c5) := by rw [fld1]; exact hcell 13 (by omega)
          have u14 : wr.cell? ⟨(ad.add (j * 24)).block, (ad.add (j * 24)).off + 14, none⟩ = some (.int .u64 c6) := by rw [fld1]; exact hcell 14 (by omega)
          have u15 : wr.cell? ⟨(ad.add (j * 24)).block, (ad.add (j * 24)).off + 15, none⟩ = some (.int .u64 c7) := by rw [fld1]; exact hcell 15 (by omega)
          have u16 : wr.cell? ⟨(ad.add (j * 24)).block, (ad.add (j * 24)).off + 16, none⟩ = some (.int .u64 c8) := by rw [fld1]; exact hcell 16 (by omega)
          have u17 : wr.cell? ⟨(ad.add (j * 24)).block, (ad.add (j * 24)).off + 17, none⟩ = some (.int .u64 c9) := by rw [fld1]; exact hcell 17 (by omega)
          have u18 : wr.cell? ⟨(ad.add (j * 24)).block, (ad.add (j * 24)).off + 18, none⟩ = some (.int .u64 c10) := by rw [fld1]; exact hcell 18 (by omega)
          have u19 : wr.cell? ⟨(ad.add (j * 24)).block, (ad.add (j * 24)).off + 19, none⟩ = some (.int .u64 c11) := by rw [fld1]; exact hcell 19 (by omega)
          have u20 : wr.cell? ⟨(ad.add (j * 24)).block, (ad.add (j * 24)).off + 20, none⟩ = some (.int .i64 pr) := by rw [fld1]; exact hcell 20 (by omega)
          have u21 : wr.cell? ⟨(ad.add (j * 24)).block, (ad.add (j * 24)).off + 21, none⟩ = some (.int .i64 hw) := by rw [fld1]; exact hcell 21 (by omega)
          clear hcell
          obtain ⟨x1, hx1⟩ : ∃ x, T.toRV bs L (gC [c0, c1, c2, c3, c4, c5, c6, c7, c8, c9, c10, c11] 9) (gC [c0, c1, c2, c3, c4, c5, c6, c7, c8, c9, c10, c11] 0) pr hw va = x := ⟨_, rfl⟩
          obtain ⟨R1, hR1⟩ : ∃ x, T.toFV bs L (gC [c0, c1, c2, c3, c4, c5, c6, c7, c8, c9, c10, c11] 9) (gC [c0, c1, c2, c3, c4, c5, c6, c7, c8, c9, c10, c11] 0) pr hw va = x := ⟨_, rfl⟩
          obtain ⟨L1, hL1⟩ : ∃ x, T.toLV bs 8 L (gC [c0, c1, c2, c3, c4, c5, c6, c7, c8, c9, c10, c11] 9) (gC [c0, c1, c2, c3, c4, c5, c6, c7, c8, c9, c10, c11] 0) pr hw va = x := ⟨_, rfl⟩
          obtain ⟨n1, hn1⟩ : ∃ x, T.toNV L n (gC [c0, c1, c2, c3, c4, c5, c6, c7, c8, c9, c10, c11] 9) (gC [c0, c1, c2, c3, c4, c5, c6, c7, c8, c9, c10, c11] 0) pr hw va = x := ⟨_, rfl⟩
          have T1 := Lib.hid (fun pm gm B p v W hB hm hh => to12 hcc hpr hhw hva hx1 hR1 hL1 hn1 pm gm B p v W hB hm hh)
          rw [show vC [c0, c1, c2, c3, c4, c5, c6, c7, c8, c9, c10, c11] = .agg #[.int .u64 c0, .int .u64 c1, .int .u64 c2, .int .u64 c3, .int .u64 c4, .int .u64 c5, .int .u64 c6, .int .u64 c7, .int .u64 c8, .int .u64 c9, .int .u64 c10, .int .u64 c11] from rfl] at T1
          clear hx1 hR1 hL1 hn1 hcc
          have HL := Lib.hid hL
          clear hL hkd has hpt hlv hata hxx
          unfold B64 at hva
          unfold I64 at hpr hhw
          go_wp2_with fail
          refine wp_region_still_tail 22 (by kernel_rfl) (by kernel_rfl) ?_
          simp only [List.take_succ_cons, List.take_zero, List.drop_succ_cons, List.drop_zero]
          change wpStill Try.prog _ wr.drew _ _ _
          repeat still_step
          refine wpStill_nil ?_
          change wpList _ _ _ _ _ (World.drew _)
          have hD := HL.out.keep (gr_drew (gr_refl wr none))
          have HD := Lib.hid hD
          clear hD u1 u8 u9 u10 u11 u12 u13 u14 u15 u16 u17 u18 u19 u20 u21
          go_wp2_with fail
          refine (T1.out _ _ _ _ _ _ HD.out.gr.size HD.out.mem HD.out.row).mono ?_
          rintro e w4 ⟨rfl, hT⟩
          obtain ⟨v', hL', -⟩ := HD.out.turn (by decide) (by decide) hT
          have HL' := Lib.hid hL'
          clear hT hL' HD HL T1
          go_wp2_with fail
          go_roundw
          case rel => exact ⟨j + 1, v', n1, L1, by go_num, by omega, by omega, HL'.out⟩
          case measure => simp [intOf]; omega
        · obtain rfl : j = 40 := by omega
          have HL := Lib.hid hL
          clear hL
          go_wp2_with fail
          go_meet
          case rel => exact ⟨_, _, _, HL.out⟩
      · obtain rfl : j = m1 := by omega
        have HL := Lib.hid hL
        clear hL
        go_wp2_with fail
        go_meet
        case rel => exact ⟨_, _, _, HL.out⟩
  case rest =>
    clear HL
    obtain ⟨v, n, L, hL⟩ := hcut
    obtain ⟨j, rfl⟩ : ∃ j, m1 = j + 1 := ⟨m1 - 1, by omega⟩
    clear hm1 hmz
    have HL := Lib.hid hL
    have y0 : wc.cell? ⟨b + 1, 0, none⟩ = some (.int .u32 a2_0) := hL.opr.cell 0
    have y1 : wc.cell? ⟨b + 1, 1, none⟩ = some (.int .u64 a2_1) := hL.opr.cell 1
    have lt := hL.opr.lt
    have hx := and_8 a2_0 hy0
    have hsb : 2147483648 ≤ spotV a2_0 ∧ spotV a2_0 ≤ 2147549183 := by unfold spotV; omega
    have hspot : 2147483648 + a2_0 % 65536 / 8 * 8 = spotV a2_0 := rfl
    have HY1 := Lib.hid hy1
    unfold B64 at hy1
    clear hL
    go_wp2_with fail
    refine (Put_c _ _ bs _ 8 _ _ HL.out.mem (by omega) (by omega) HY1.out).mono ?_
    rintro e w4 ⟨rfl, hA, hG⟩
    have hL4 := HL.out.put HGM.out (by decide) hA hG
    clear hA hG HL y0 y1 lt hx hspot
    obtain ⟨bs2, hbs2⟩ : ∃ bs2, bs2 = putV bs (spotV a2_0) 8 a2_1 := ⟨_, rfl⟩
    rw [← hbs2] at hL4
    clear hbs2
    obtain ⟨ad, rfl, hadb, hcell, hfine⟩ := (HO.out.go hL4.gr) j (by omega)
    have hadw : ad.block < w4.heap.size := by have := hL4.gr.size; omega
    obtain ⟨⟨kd, va, asi, pt, lv, gl, al, ev, cc, pr, hw, ata, xx⟩, ho⟩ : ∃ o, o = F j := ⟨_, rfl⟩
    rw [← ho] at hcell hfine
    obtain ⟨hkd, hva, has, hpt, hlv, hcc, hpr, hhw, hata, hxx⟩ := hfine
    simp only at hkd hva has hpt hlv hcc hpr hhw hata hxx
    obtain ⟨c0, c1, c2, c3, c4, c5, c6, c7, c8, c9, c10, c11, rfl⟩ := twelve hcc.1
    clear ho
    have HLD := Lib.hid (show ∀ q v, ([.int .u8 kd, .int .u64 va, .int .u64 asi, .int .u64 pt, .int .i64 lv, .bool gl, .bool al, .bool ev, .int .u64 c0, .int .u64 c1, .int .u64 c2, .int .u64 c3, .int .u64 c4, .int .u64 c5, .int .u64 c6, .int .u64 c7, .int .u64 c8, .int .u64 c9, .int .u64 c10, .int .u64 c11, .int .i64 pr, .int .i64 hw, .int .u32 ata, .int .u64 xx] : List Value)[q]? = some v → w4.cell? ((ad.add (j * 24)).add q) = some v from fun q v hq => by
      have hql : q < 24 := (List.getElem?_eq_some_iff.1 hq).1
      rw [Deep.add_add, hcell q hql]
      exact hq)
    have HFS := Lib.hid (fresh_set w4 54 [.int .u8 0, .int .u64 0, .int .u64 0, .int .u64 0, .int .i64 0, .bool false, .bool false, .bool false, .int .u64 0, .int .u64 0, .int .u64 0, .int .u64 0, .int .u64 0, .int .u64 0, .int .u64 0, .int .u64 0, .int .u64 0, .int .u64 0, .int .u64 0, .int .u64 0, .int .i64 0, .int .i64 0, .int .u32 0, .int .u64 0] (opC ⟨kd, va, asi, pt, lv, gl, al, ev, [c0, c1, c2, c3, c4, c5, c6, c7, c8, c9, c10, c11], pr, hw, ata, xx⟩) rfl)
    have HL4 := Lib.hid hL4
    have HX := Lib.hid (And.intro hva (And.intro hcc (And.intro hpr (And.intro hhw has))))
    clear hcell hL4 hkd has hpt hlv hata hxx hcc hadb hva hpr hhw
    go_wp2_with (first | (with_reducible refine wpList_load_at rfl 54 (.tmp 98) rfl (ad.add (j * 24)) rfl [.int .u8 kd, .int .u64 va, .int .u64 asi, .int .u64 pt, .int .i64 lv, .bool gl, .bool al, .bool ev, .int .u64 c0, .int .u64 c1, .int .u64 c2, .int .u64 c3, .int .u64 c4, .int .u64 c5, .int .u64 c6, .int .u64 c7, .int .u64 c8, .int .u64 c9, .int .u64 c10, .int .u64 c11, .int .i64 pr, .int .i64 hw, .int .u32 ata, .int .u64 xx] _ HLD.out Try.underlying54 rfl (by kernel_rfl) ?_) | (refine wpList_store_op rfl (.tmp 12) (.tmp 99) rfl ⟨kd, va, asi, pt, lv, gl, al, ev, [c0, c1, c2, c3, c4, c5, c6, c7, c8, c9, c10, c11], pr, hw, ata, xx⟩ rfl [.int .u8 0, .int .u64 0, .int .u64 0, .int .u64 0, .int .i64 0, .bool false, .bool false, .bool false, .int .u64 0, .int .u64 0, .int .u64 0, .int .u64 0, .int .u64 0, .int .u64 0, .int .u64 0, .int .u64 0, .int .u64 0, .int .u64 0, .int .u64 0, .int .u64 0, .int .i64 0, .int .i64 0, .int .u32 0, .int .u64 0] rfl rfl rfl ?_; obtain ⟨hT0, hGS⟩ := HFS.out; have hL0 : Lt w 54 w4.heap.size (opC ⟨kd, va, asi, pt, lv, gl, al, ev, [c0, c1, c2, c3, c4, c5, c6, c7, c8, c9, c10, c11], pr, hw, ata, xx⟩) pm gm bs2 p 8 v n L _ := { HL4.out.keep hGS with opr := hT0 }; clear HFS hGS HLD hadw HL4; generalize ((w4.alloc (.cells ([.int .u8 0, .int .u64 0, .int .u64 0, .int .u64 0, .int .i64 0, .bool false, .bool false, .bool false, .int .u64 0, .int .u64 0, .int .u64 0, .int .u64 0, .int .u64 0, .int .u64 0, .int .u64 0, .int .u64 0, .int .u64 0, .int .u64 0, .int .u64 0, .int .u64 0, .int .i64 0, .int .i64 0, .int .u32 0, .int .u64 0] : List Value).toArray 54)).setCells w4.heap.size 0 (opC ⟨kd, va, asi, pt, lv, gl, al, ev, [c0, c1, c2, c3, c4, c5, c6, c7, c8, c9, c10, c11], pr, hw, ata, xx⟩)) = U at *; generalize w4.heap.size = t at *; have HL0 := Lib.hid hL0; clear hL0 hT0))
    refine (TClone_c _ _ _ _ _ _ _ HL0.out.row).mono ?_
    rintro e w5 ⟨p2, v2, rfl, hC, hG⟩
    have hL5 := HL0.out.keep hG
    have k1 : w5.cell? ⟨t, 1, none⟩ = some (.int .u64 va) := hL5.opr.cell 1
    have k2 : w5.cell? ⟨t, 2, none⟩ = some (.int .u64 asi) := hL5.opr.cell 2
    have k7 : w5.cell? ⟨t, 7, none⟩ = some (.bool ev) := hL5.opr.cell 7
    have lt := hL5.opr.lt
    have HC := Lib.hid hC
    have HG := Lib.hid hG
    clear hC hG hL5
    go_wp2_with fail
    refine (Flush_c _ p2 8 v2 n L false ev va asi HX.out.1 HX.out.2.2.2.2 _ HC.out).mono ?_
    rintro e w6 ⟨rfl, v3, hC6, -, hb6⟩
    have hL6 := HL0.out.keep (but_grown HG.out HC.out (Nat.le_refl _) hb6)
    clear hb6 HC HG HL0 k1 k2 k7 lt
    have k1 : w6.cell? ⟨t, 1, none⟩ = some (.int .u64 va) := hL6.opr.cell 1
    have k2 : w6.cell? ⟨t, 2, none⟩ = some (.int .u64 asi) := hL6.opr.cell 2
    have lt := hL6.opr.lt
    have HL6 := Lib.hid hL6
    have HC6 := Lib.hid hC6
    clear hL6 hC6
    go_wp2_with fail
    refine (Find_c _ p2 8 v3 n (T.flushT L false va ev asi) va asi HX.out.1 HX.out.2.2.2.2 _ HC6.out).mono ?_
    obtain ⟨x, y, gg, fd, e1, e2, e3⟩ : ∃ x y gg fd, vGot (T.findT (T.flushT L false va ev asi) va asi) = .agg #[.int .u64 x, .int .i64 y, .bool gg] ∧ (T.findT (T.flushT L false va ev asi) va asi).isSome = fd ∧ (fd = true → ev = false ∧ gg = true) := by
      cases hf : T.findT (T.flushT L false va ev asi) va asi with
      | none => exact ⟨_, _, _, _, rfl, rfl, fun h => by cases h⟩
      | some k => exact ⟨_, _, _, _, rfl, rfl, fun _ => T.flush_found hf⟩
    rw [e1, e2]
    clear e1 e2 HC6
    rintro e w7 ⟨rfl, hG⟩
    have hA := gr_alloc (gr_refl w7 none) (.cells #[.int .u64 x, .int .i64 y, .bool gg] 52)
    have hL7 := HL6.out.keep (gr_trans hG hA)
    have n2 : (w7.alloc (.cells #[.int .u64 x, .int .i64 y, .bool gg] 52)).cell? ⟨w7.heap.size, 2, none⟩ = some (.bool gg) := (Row.fresh w7 52 [.int .u64 x, .int .i64 y, .bool gg]).cell 2
    clear hG HL6 k1 k2 lt hA
    go_upto_region 17 with (fail)
    generalize w7.alloc (.cells #[.int .u64 x, .int .i64 y, .bool gg] 52) = U7 at *
    generalize w7.heap.size = q7 at *
    have k7 := hL7.opr.cell 7
    replace k7 : U7.cell? ⟨t, 7, none⟩ = some (.bool ev) := k7
    have lt := hL7.opr.lt
    have HL7 := Lib.hid hL7
    have E3 := Lib.hid e3
    clear hL7 e3
    go_cut [130] from 121 to 130 (fun c wc => c = .bool false ∧ wc = U7)
    case first =>
      cases fd
      · go_wp2_with fail
        go_meet
        case rel => exact ⟨rfl, rfl⟩
      · obtain ⟨rfl, rfl⟩ := E3.out rfl
        go_wp2_with fail
        go_meet
        case rel => exact ⟨rfl, rfl⟩
    case rest =>
      obtain ⟨rfl, rfl⟩ := hcut
      clear E3 k7 lt n2
      go_wp2_with fail
      refine (Flush_c _ p 8 v n L true true 0 0 (by decide) (by decide) _ HL7.out.row).mono ?_
      rintro e w8 ⟨rfl, hT⟩
      obtain ⟨v8, hL8, -⟩ := HL7.out.turn (by decide) (by decide) hT
      rw [T.flush_all] at hL8
      have HL8 := Lib.hid hL8
      clear hT hL8 HL7
      go_wp2_with fail
      refine (LN.out _ _ _ _ _ _ HL8.out.row).mono ?_
      rintro e w9 ⟨rfl, rfl⟩
      obtain ⟨hva, hcc, hpr, hhw, has⟩ := HX.out
      obtain ⟨R, hR⟩ : ∃ x, walkV bs2 (gC [c0, c1, c2, c3, c4, c5, c6, c7, c8, c9, c10, c11] 9) (gC [c0, c1, c2, c3, c4, c5, c6, c7, c8, c9, c10, c11] 0) pr hw va = x := ⟨_, rfl⟩
      obtain ⟨x1, hx1⟩ : ∃ x, toV bs2 (gC [c0, c1, c2, c3, c4, c5, c6, c7, c8, c9, c10, c11] 9) (gC [c0, c1, c2, c3, c4, c5, c6, c7, c8, c9, c10, c11] 0) pr hw va = x := ⟨_, rfl⟩
      obtain ⟨z1, z2⟩ := T.empty_to bs2 (gC [c0, c1, c2, c3, c4, c5, c6, c7, c8, c9, c10, c11] 9) (gC [c0, c1, c2, c3, c4, c5, c6, c7, c8, c9, c10, c11] 0) pr hw va
      rw [hx1] at z1
      rw [hR] at z2
      obtain ⟨L1, hL1⟩ : ∃ x, T.toLV bs2 8 [] (gC [c0, c1, c2, c3, c4, c5, c6, c7, c8, c9, c10, c11] 9) (gC [c0, c1, c2, c3, c4, c5, c6, c7, c8, c9, c10, c11] 0) pr hw va = x := ⟨_, rfl⟩
      obtain ⟨n1, hn1⟩ : ∃ x, T.toNV [] n (gC [c0, c1, c2, c3, c4, c5, c6, c7, c8, c9, c10, c11] 9) (gC [c0, c1, c2, c3, c4, c5, c6, c7, c8, c9, c10, c11] 0) pr hw va = x := ⟨_, rfl⟩
      have T1 := Lib.hid (fun pm gm B p v W hB hm hh => to12 hcc hpr hhw hva z1 z2 hL1 hn1 pm gm B p v W hB hm hh)
      have T2 := Lib.hid (fun pm gm W hm => to_at (p := pm) (g := gm) hcc hpr hhw hva hR.symm hx1.symm W hm)
      rw [show vC [c0, c1, c2, c3, c4, c5, c6, c7, c8, c9, c10, c11] = .agg #[.int .u64 c0, .int .u64 c1, .int .u64 c2, .int .u64 c3, .int .u64 c4, .int .u64 c5, .int .u64 c6, .int .u64 c7, .int .u64 c8, .int .u64 c9, .int .u64 c10, .int .u64 c11] from rfl] at T1 T2
      have OF := Lib.hid (show Ofs R hw va from hR ▸ walk_of bs2 (gC [c0, c1, c2, c3, c4, c5, c6, c7, c8, c9, c10, c11] 9) va hw pr (gC [c0, c1, c2, c3, c4, c5, c6, c7, c8, c9, c10, c11] 0))
      have PF := Lib.hid (fun W => rFault_c hw va hhw W)
      have NA := Lib.hid (fun W => rNone_c hw va hhw W)
      unfold vFault at PF NA
      clear z1 z2 hL1 hn1 hR hx1 hcc HX
      unfold B64 at hva has
      unfold I64 at hpr hhw
      have k1 : w8.cell? ⟨t, 1, none⟩ = some (.int .u64 va) := HL8.out.opr.cell 1
      have k8 : w8.cell? ⟨t, 8, none⟩ = some (.int .u64 c0) := HL8.out.opr.cell 8
      have k9 : w8.cell? ⟨t, 9, none⟩ = some (.int .u64 c1) := HL8.out.opr.cell 9
      have k10 : w8.cell? ⟨t, 10, none⟩ = some (.int .u64 c2) := HL8.out.opr.cell 10
      have k11 : w8.cell? ⟨t, 11, none⟩ = some (.int .u64 c3) := HL8.out.opr.cell 11
      have k12 : w8.cell? ⟨t, 12, none⟩ = some (.int .u64 c4) := HL8.out.opr.cell 12
      have k13 : w8.cell? ⟨t, 13, none⟩ = some (.int .u64 c5) := HL8.out.opr.cell 13
      have k14 : w8.cell? ⟨t, 14, none⟩ = some (.int .u64 c6) := HL8.out.opr.cell 14
      have k15 : w8.cell? ⟨t, 15, none⟩ = some (.int .u64 c7) := HL8.out.opr.cell 15
      have k16 : w8.cell? ⟨t, 16, none⟩ = some (.int .u64 c8) := HL8.out.opr.cell 16
      have k17 : w8.cell? ⟨t, 17, none⟩ = some (.int .u64 c9) := HL8.out.opr.cell 17
      have k18 : w8.cell? ⟨t, 18, none⟩ = some (.int .u64 c10) := HL8.out.opr.cell 18
      have k19 : w8.cell? ⟨t, 19, none⟩ = some (.int .u64 c11) := HL8.out.opr.cell 19
      have k20 : w8.cell? ⟨t, 20, none⟩ = some (.int .i64 pr) := HL8.out.opr.cell 20
      have k21 : w8.cell? ⟨t, 21, none⟩ = some (.int .i64 hw) := HL8.out.opr.cell 21
      have lt := HL8.out.opr.lt
      go_wp2_with fail
      refine (T1.out _ _ _ _ _ _ HL8.out.gr.size HL8.out.mem HL8.out.row).mono ?_
      rintro e w10 ⟨rfl, hT⟩
      obtain ⟨v10, hL, -⟩ := HL8.out.turn (by decide) (by decide) hT
      clear k1 k8 k9 k10 k11 k12 k13 k14 k15 k16 k17 k18 k19 k20 k21 lt
      have hL10 := hL.keep (gr_alloc (gr_refl w10 none) (.cells #[.bool R.isf, .int .i64 R.cause, .int .u64 R.val] 48))
      have hF10 := Row.fresh w10 48 [.bool R.isf, .int .i64 R.cause, .int .u64 R.val]
      have k1 : (w10.alloc (.cells #[.bool R.isf, .int .i64 R.cause, .int .u64 R.val] 48)).cell? ⟨t, 1, none⟩ = some (.int .u64 va) := hL10.opr.cell 1
      have k8 : (w10.alloc (.cells #[.bool R.isf, .int .i64 R.cause, .int .u64 R.val] 48)).cell? ⟨t, 8, none⟩ = some (.int .u64 c0) := hL10.opr.cell 8
      have k9 : (w10.alloc (.cells #[.bool R.isf, .int .i64 R.cause, .int .u64 R.val] 48)).cell? ⟨t, 9, none⟩ = some (.int .u64 c1) := hL10.opr.cell 9
      have k10 : (w10.alloc (.cells #[.bool R.isf, .int .i64 R.cause, .int .u64 R.val] 48)).cell? ⟨t, 10, none⟩ = some (.int .u64 c2) := hL10.opr.cell 10
      have k11 : (w10.alloc (.cells #[.bool R.isf, .int .i64 R.cause, .int .u64 R.val] 48)).cell? ⟨t, 11, none⟩ = some (.int .u64 c3) := hL10.opr.cell 11
      have k12 : (w10.alloc (.cells #[.bool R.isf, .int .i64 R.cause, .int .u64 R.val] 48)).cell? ⟨t, 12, none⟩ = some (.int .u64 c4) := hL10.opr.cell 12
      have k13 : (w10.alloc (.cells #[.bool R.isf, .int .i64 R.cause, .int .u64 R.val] 48)).cell? ⟨t, 13, none⟩ = some (.int .u64 c5) := hL10.opr.cell 13
      have k14 : (w10.alloc (.cells #[.bool R.isf, .int .i64 R.cause, .int .u64 R.val] 48)).cell? ⟨t, 14, none⟩ = some (.int .u64 c6) := hL10.opr.cell 14
      have k15 : (w10.alloc (.cells #[.bool R.isf, .int .i64 R.cause, .int .u64 R.val] 48)).cell? ⟨t, 15, none⟩ = some (.int .u64 c7) := hL10.opr.cell 15
      have k16 : (w10.alloc (.cells #[.bool R.isf, .int .i64 R.cause, .int .u64 R.val] 48)).cell? ⟨t, 16, none⟩ = some (.int .u64 c8) := hL10.opr.cell 16
      have k17 : (w10.alloc (.cells #[.bool R.isf, .int .i64 R.cause, .int .u64 R.val] 48)).cell? ⟨t, 17, none⟩ = some (.int .u64 c9) := hL10.opr.cell 17
      have k18 : (w10.alloc (.cells #[.bool R.isf, .int .i64 R.cause, .int .u64 R.val] 48)).cell? ⟨t, 18, none⟩ = some (.int .u64 c10) := hL10.opr.cell 18
      have k19 : (w10.alloc (.cells #[.bool R.isf, .int .i64 R.cause, .int .u64 R.val] 48)).cell? ⟨t, 19, none⟩ = some (.int .u64 c11) := hL10.opr.cell 19
      have k20 : (w10.alloc (.cells #[.bool R.isf, .int .i64 R.cause, .int .u64 R.val] 48)).cell? ⟨t, 20, none⟩ = some (.int .i64 pr) := hL10.opr.cell 20
      have k21 : (w10.alloc (.cells #[.bool R.isf, .int .i64 R.cause, .int .u64 R.val] 48)).cell? ⟨t, 21, none⟩ = some (.int .i64 hw) := hL10.opr.cell 21
      have lt := hL10.opr.lt
      have HL10 := Lib.hid hL10
      have HF10 := Lib.hid hF10
      clear hT hL hL10 hF10 HL8 T1 LN
      go_wp2_with fail
      refine (T2.out _ _ _ HL10.out.mem).mono ?_
      rintro e w11 ⟨rfl, hG⟩
      have hA := gr_alloc (gr_refl w11 none) (.cells #[.bool R.isf, .int .i64 R.cause, .int .u64 R.val] 48)
      have hS := fin_of (show Fin w w10.heap.size w11.heap.size t (opC ⟨kd, va, asi, pt, lv, gl, al, ev, [c0, c1, c2, c3, c4, c5, c6, c7, c8, c9, c10, c11], pr, hw, ata, xx⟩) R.isf R.cause R.val (w11.alloc (.cells #[.bool R.isf, .int .i64 R.cause, .int .u64 R.val] 48)) from ⟨HF10.out.grown (gr_trans hG hA) (by simp), Row.fresh w11 48 _, (HL10.out.keep (gr_trans hG hA)).opr, (HL10.out.keep (gr_trans hG hA)).gr⟩) (va := va) (hw := hw) rfl rfl
      clear k1 k8 k9 k10 k11 k12 k13 k14 k15 k16 k17 k18 k19 k20 k21 lt hG hA HL10 HF10 T2
      go_upto_region 23 with (fail)
      generalize w11.alloc (.cells #[.bool R.isf, .int .i64 R.cause, .int .u64 R.val] 48) = U11 at *
      generalize w11.heap.size = q2 at *
      generalize w10.heap.size = q1 at *
      have ways : R.isf = false ∨ (R.isf = true ∧ R.cause = pfC hw ∧ R.val = va) ∨ (R.isf = true ∧ R.cause = naC hw ∧ R.val = va) := by
        cases hi : R.isf
        · exact Or.inl rfl
        · obtain ⟨h1, h2⟩ := OF.out hi
          rcases h1 with h1 | h1
          · exact Or.inr (Or.inl ⟨rfl, h1, h2⟩)
          · exact Or.inr (Or.inr ⟨rfl, h1, h2⟩)
      have npf := pf_na hw
      clear OF
      generalize R.isf = ri at *
      generalize R.cause = rc at *
      generalize R.val = rv at *
      generalize pfC hw = pf at *
      generalize naC hw = na at *
      have NPF := Lib.hid npf
      clear npf
      rcases ways with rfl | ⟨rfl, rfl, hv⟩ | ⟨rfl, rfl, hv⟩
      · have q0 := fun W => eql_Fs false rc rv W
        unfold Eight at hS
        have GB := Lib.hid (Eight.fin hS).gr
        go_wp2_with fail
        go_quiet (fail)
        go_wp2_with fail
        go_ret
        exact ⟨rfl, gr_below (gr_drewN GB.out _)⟩
      · obtain rfl : va = rv := hv.symm
        have q0 := fun W => eql_Fs true rc va W
        have F0 := Eight.fin hS
        have RF := F0.one
        have RG := F0.two
        have RO := F0.opr
        have GW := Lib.hid F0.gr
        clear hS F0
        go_wp2_with fail
        refine wp_region_held_drew (S := fun w' => Row w' q1 48 [.bool true, .int .i64 rc, .int .u64 va] ∧ Row w' q2 48 [.bool true, .int .i64 rc, .int .u64 va] ∧ Row w' t 54 (opC ⟨kd, va, asi, pt, lv, gl, al, ev, [c0, c1, c2, c3, c4, c5, c6, c7, c8, c9, c10, c11], pr, hw, ata, xx⟩)) (by kernel_rfl) ?_ (fun hHeld => ?_)
        · exact ⟨Row.grown RF (gr_drew (gr_refl _ none)) (by simp), Row.grown RG (gr_drew (gr_refl _ none)) (by simp), Row.grown RO (gr_drew (gr_refl _ none)) (by simp)⟩
        refine wpAnyH_take (i := 0) (oi := { dst := some 162, op := Op.move (Operand.tmp 16), type := 3, pos := "law.go:171", after := #[], guard := none }) (v := ?_) rfl (by kernel_rfl) (by kernel_rfl) (by kernel_rfl) (fun _ _ _ h => h) (Or.inl ⟨by rfl, ?_⟩) (by assumption) ?_
        rotate_left
        · (intro w hSw; (try dsimp only at hSw); go_simp; try with_reducible rfl)
        try simp only [Act.put, List.setIfInBounds_toArray, List.set_cons_zero, List.set_cons_succ]
        refine wpAnyH_take (i := 1) (oi := { dst := some 163, op := Op.binOp BinOp.eql 3 (Operand.tmp 162) (Operand.const (Value.int IntKind.i64 0)) 3, type := 4, pos := "law.go:171", after := #[{ on := 0, ground := Ground.data }], guard := none }) (v := ?_) rfl (by kernel_rfl) (by kernel_rfl) (by kernel_rfl) (fun _ _ _ h => h) (Or.inl ⟨by rfl, ?_⟩) (by assumption) ?_
        rotate_left
        · (intro w hSw; (try dsimp only at hSw); go_simp; try with_reducible rfl)
        try simp only [Act.put, List.setIfInBounds_toArray, List.set_cons_zero, List.set_cons_succ]
        refine wpAnyH_take (i := 2) (oi := { dst := some 164, op := Op.move (Operand.tmp 163), type := 4, pos := "law.go:171", after := #[{ on := 1, ground := Ground.data }], guard := none }) (v := ?_) rfl (by kernel_rfl) (by kernel_rfl) (by kernel_rfl) (fun _ _ _ h => h) (Or.inl ⟨by rfl, ?_⟩) (by assumption) ?_
        rotate_left
        · (intro w hSw; (try dsimp only at hSw); go_simp; try with_reducible rfl)
        try simp only [Act.put, List.setIfInBounds_toArray, List.set_cons_zero, List.set_cons_succ]
        refine wpAnyH_take (i := 3) (oi := { dst := some 165, op := Op.move (Operand.tmp 17), type := 22, pos := "law.go:171", after := #[{ on := 2, ground := Ground.guard }], guard := some (2, true) }) (v := ?_) rfl (by kernel_rfl) (by kernel_rfl) (by kernel_rfl) (fun _ _ _ h => h) (Or.inl ⟨by rfl, ?_⟩) (by assumption) ?_
        rotate_left
        · (intro w hSw; (try dsimp only at hSw); go_simp; try with_reducible rfl)
        try simp only [Act.put, List.setIfInBounds_toArray, List.set_cons_zero, List.set_cons_succ]
        refine wpAnyH_take (i := 4) (oi := { dst := some 166, op := Op.move (Operand.tmp 19), type := 22, pos := "law.go:171", after := #[{ on := 2, ground := Ground.guard }], guard := some (2, true) }) (v := ?_) rfl (by kernel_rfl) (by kernel_rfl) (by kernel_rfl) (fun _ _ _ h => h) (Or.inl ⟨by rfl, ?_⟩) (by assumption) ?_
        rotate_left
        · (intro w hSw; (try dsimp only at hSw); go_simp; try with_reducible rfl)
        try simp only [Act.put, List.setIfInBounds_toArray, List.set_cons_zero, List.set_cons_succ]
        refine wpAnyH_take (i := 5) (oi := { dst := some 167, op := Op.binOp BinOp.eql 22 (Operand.tmp 165) (Operand.tmp 166) 22, type := 4, pos := "law.go:171", after := #[{ on := 3, ground := Ground.data }, { on := 4, ground := Ground.data }, { on := 2, ground := Ground.guard }], guard := some (2, true) }) (v := ?_) rfl (by kernel_rfl) (by kernel_rfl) (by kernel_rfl) (fun _ _ _ h => h) (Or.inl ⟨by rfl, ?_⟩) (by assumption) ?_
        rotate_left
        · (intro w hSw; (try dsimp only at hSw); go_simp; try with_reducible rfl)
        try simp only [Act.put, List.setIfInBounds_toArray, List.set_cons_zero, List.set_cons_succ]
        refine wpAnyH_take (i := 6) (oi := { dst := some 168, op := Op.pick (Operand.tmp 164) (Operand.tmp 167) (Operand.const (Value.bool false)), type := 4, pos := "law.go:171", after := #[{ on := 2, ground := Ground.data }, { on := 5, ground := Ground.data }], guard := none }) (v := ?_) rfl (by kernel_rfl) (by kernel_rfl) (by kernel_rfl) (fun _ _ _ h => h) (Or.inl ⟨by rfl, ?_⟩) (by assumption) ?_
        rotate_left
        · (intro w hSw; (try dsimp only at hSw); go_simp; try with_reducible rfl)
        try simp only [Act.put, List.setIfInBounds_toArray, List.set_cons_zero, List.set_cons_succ]
        refine wpAnyH_take (i := 7) (oi := { dst := some 169, op := Op.move (Operand.tmp 168), type := 4, pos := "law.go:171", after := #[{ on := 6, ground := Ground.data }, { on := 2, ground := Ground.chain }], guard := none }) (v := ?_) rfl (by kernel_rfl) (by kernel_rfl) (by kernel_rfl) (fun _ _ _ h => h) (Or.inl ⟨by rfl, ?_⟩) (by assumption) ?_
        rotate_left
        · (intro w hSw; (try dsimp only at hSw); go_simp; try with_reducible rfl)
        try simp only [Act.put, List.setIfInBounds_toArray, List.set_cons_zero, List.set_cons_succ]
        refine wpAnyH_take (i := 8) (oi := { dst := some 170, op := Op.load 48 (Operand.tmp 18), type := 48, pos := "law.go:171", after := #[{ on := 7, ground := Ground.guard }], guard := some (7, true) }) (v := ?_) rfl (by kernel_rfl) (by kernel_rfl) (by kernel_rfl) (fun _ _ _ h => h) (Or.inl ⟨by rfl, ?_⟩) (by assumption) ?_
        rotate_left
        · (intro w hSw; (try dsimp only at hSw); (obtain ⟨RF, RG, RO⟩ := hSw); obtain ⟨k0, k1, k2⟩ := cells3 RF; go_simp; try with_reducible rfl)
        try simp only [Act.put, List.setIfInBounds_toArray, List.set_cons_zero, List.set_cons_succ]
        refine wpAnyH_take (i := 9) (oi := { dst := some 171, op := Op.load 48 (Operand.tmp 20), type := 48, pos := "law.go:171", after := #[{ on := 7, ground := Ground.guard }], guard := some (7, true) }) (v := ?_) rfl (by kernel_rfl) (by kernel_rfl) (by kernel_rfl) (fun _ _ _ h => h) (Or.inl ⟨by rfl, ?_⟩) (by assumption) ?_
        rotate_left
        · (intro w hSw; (try dsimp only at hSw); (obtain ⟨RF, RG, RO⟩ := hSw); obtain ⟨k0, k1, k2⟩ := cells3 RG; go_simp; try with_reducible rfl)
        try simp only [Act.put, List.setIfInBounds_toArray, List.set_cons_zero, List.set_cons_succ]
        refine wpAnyH_take (i := 10) (oi := { dst := some 172, op := Op.binOp BinOp.eql 48 (Operand.tmp 170) (Operand.tmp 171) 48, type := 4, pos := "law.go:171", after := #[{ on := 8, ground := Ground.data }, { on := 9, ground := Ground.data }, { on := 7, ground := Ground.guard }], guard := some (7, true) }) (v := ?_) rfl (by kernel_rfl) (by kernel_rfl) (by kernel_rfl) (fun _ _ _ h => h) (Or.inl ⟨by rfl, ?_⟩) (by assumption) ?_
        rotate_left
        · (intro w hSw; (try dsimp only at hSw); go_simp; try with_reducible rfl)
        try simp only [Act.put, List.setIfInBounds_toArray, List.set_cons_zero, List.set_cons_succ]
        refine wpAnyH_take (i := 11) (oi := { dst := some 173, op := Op.pick (Operand.tmp 169) (Operand.tmp 172) (Operand.const (Value.bool false)), type := 4, pos := "law.go:171", after := #[{ on := 7, ground := Ground.data }, { on := 10, ground := Ground.data }], guard := none }) (v := ?_) rfl (by kernel_rfl) (by kernel_rfl) (by kernel_rfl) (fun _ _ _ h => h) (Or.inl ⟨by rfl, ?_⟩) (by assumption) ?_
        rotate_left
        · (intro w hSw; (try dsimp only at hSw); go_simp; try with_reducible rfl)
        try simp only [Act.put, List.setIfInBounds_toArray, List.set_cons_zero, List.set_cons_succ]
        refine wpAnyH_take (i := 12) (oi := { dst := some 174, op := Op.move (Operand.tmp 173), type := 4, pos := "law.go:171", after := #[{ on := 11, ground := Ground.data }, { on := 7, ground := Ground.chain }], guard := none }) (v := ?_) rfl (by kernel_rfl) (by kernel_rfl) (by kernel_rfl) (fun _ _ _ h => h) (Or.inl ⟨by rfl, ?_⟩) (by assumption) ?_
        rotate_left
        · (intro w hSw; (try dsimp only at hSw); go_simp; try with_reducible rfl)
        try simp only [Act.put, List.setIfInBounds_toArray, List.set_cons_zero, List.set_cons_succ]
        refine wpAnyH_take (i := 13) (oi := { dst := some 175, op := Op.fieldAddr 48 (Operand.tmp 18) 0, type := 0, pos := "law.go:171", after := #[{ on := 12, ground := Ground.guard }], guard := some (12, true) }) (v := ?_) rfl (by kernel_rfl) (by kernel_rfl) (by kernel_rfl) (fun _ _ _ h => h) (Or.inl ⟨by rfl, ?_⟩) (by assumption) ?_
        rotate_left
        · (intro w hSw; (try dsimp only at hSw); go_simp; try with_reducible rfl)
        try simp only [Act.put, List.setIfInBounds_toArray, List.set_cons_zero, List.set_cons_succ]
        refine wpAnyH_take (i := 14) (oi := { dst := some 176, op := Op.load 4 (Operand.tmp 175), type := 4, pos := "law.go:171", after := #[{ on := 13, ground := Ground.data }, { on := 12, ground := Ground.guard }], guard := some (12, true) }) (v := ?_) rfl (by kernel_rfl) (by kernel_rfl) (by kernel_rfl) (fun _ _ _ h => h) (Or.inl ⟨by rfl, ?_⟩) (by assumption) ?_
        rotate_left
        · (intro w hSw; (try dsimp only at hSw); (obtain ⟨RF, RG, RO⟩ := hSw); obtain ⟨k0, k1, k2⟩ := cells3 RF; go_simp; try with_reducible rfl)
        try simp only [Act.put, List.setIfInBounds_toArray, List.set_cons_zero, List.set_cons_succ]
        refine wpAnyH_take (i := 15) (oi := { dst := some 177, op := Op.unOp UnOp.not 4 (Operand.tmp 176), type := 4, pos := "law.go:171", after := #[{ on := 14, ground := Ground.data }, { on := 12, ground := Ground.guard }], guard := some (12, true) }) (v := ?_) rfl (by kernel_rfl) (by kernel_rfl) (by kernel_rfl) (fun _ _ _ h => h) (Or.inl ⟨by rfl, ?_⟩) (by assumption) ?_
        rotate_left
        · (intro w hSw; (try dsimp only at hSw); go_simp; try with_reducible rfl)
        try simp only [Act.put, List.setIfInBounds_toArray, List.set_cons_zero, List.set_cons_succ]
        refine wpAnyH_take (i := 16) (oi := { dst := some 178, op := Op.move (Operand.tmp 177), type := 4, pos := "law.go:171", after := #[{ on := 15, ground := Ground.data }, { on := 12, ground := Ground.chain }, { on := 12, ground := Ground.guard }], guard := some (12, true) }) (v := ?_) rfl (by kernel_rfl) (by kernel_rfl) (by kernel_rfl) (fun _ _ _ h => h) (Or.inl ⟨by rfl, ?_⟩) (by assumption) ?_
        rotate_left
        · (intro w hSw; (try dsimp only at hSw); go_simp; try with_reducible rfl)
        try simp only [Act.put, List.setIfInBounds_toArray, List.set_cons_zero, List.set_cons_succ]
        refine wpAnyH_take (i := 17) (oi := { dst := some 179, op := Op.load 48 (Operand.tmp 18), type := 48, pos := "law.go:171", after := #[{ on := 16, ground := Ground.guard }], guard := some (16, false) }) (v := ?_) rfl (by kernel_rfl) (by kernel_rfl) (by kernel_rfl) (fun _ _ _ h => h) (Or.inl ⟨by rfl, ?_⟩) (by assumption) ?_
        rotate_left
        · (intro w hSw; (try dsimp only at hSw); (obtain ⟨RF, RG, RO⟩ := hSw); obtain ⟨k0, k1, k2⟩ := cells3 RF; go_simp; try with_reducible rfl)
        try simp only [Act.put, List.setIfInBounds_toArray, List.set_cons_zero, List.set_cons_succ]
        refine wpAnyH_take (i := 18) (oi := { dst := some 180, op := Op.fieldAddr 54 (Operand.tmp 12) 8, type := 0, pos := "law.go:171", after := #[{ on := 16, ground := Ground.guard }], guard := some (16, false) }) (v := ?_) rfl (by kernel_rfl) (by kernel_rfl) (by kernel_rfl) (fun _ _ _ h => h) (Or.inl ⟨by rfl, ?_⟩) (by assumption) ?_
        rotate_left
        · (intro w hSw; (try dsimp only at hSw); go_simp; try with_reducible rfl)
        try simp only [Act.put, List.setIfInBounds_toArray, List.set_cons_zero, List.set_cons_succ]
        refine wpAnyH_take (i := 19) (oi := { dst := some 181, op := Op.load 3 (Operand.tmp 180), type := 3, pos := "law.go:171", after := #[{ on := 18, ground := Ground.data }, { on := 16, ground := Ground.guard }], guard := some (16, false) }) (v := ?_) rfl (by kernel_rfl) (by kernel_rfl) (by kernel_rfl) (fun _ _ _ h => h) (Or.inl ⟨by rfl, ?_⟩) (by assumption) ?_
        rotate_left
        · (intro w hSw; (try dsimp only at hSw); (obtain ⟨RF, RG, RO⟩ := hSw); obtain ⟨k0, k1⟩ := cells2o RO; go_simp; try with_reducible rfl)
        try simp only [Act.put, List.setIfInBounds_toArray, List.set_cons_zero, List.set_cons_succ]
        refine wpAnyH_take (i := 20) (oi := { dst := some 182, op := Op.fieldAddr 54 (Operand.tmp 12) 1, type := 0, pos := "law.go:171", after := #[{ on := 16, ground := Ground.guard }], guard := some (16, false) }) (v := ?_) rfl (by kernel_rfl) (by kernel_rfl) (by kernel_rfl) (fun _ _ _ h => h) (Or.inl ⟨by rfl, ?_⟩) (by assumption) ?_
        rotate_left
        · (intro w hSw; (try dsimp only at hSw); go_simp; try with_reducible rfl)
        try simp only [Act.put, List.setIfInBounds_toArray, List.set_cons_zero, List.set_cons_succ]
        refine wpAnyH_take (i := 21) (oi := { dst := some 183, op := Op.load 22 (Operand.tmp 182), type := 22, pos := "law.go:171", after := #[{ on := 20, ground := Ground.data }, { on := 16, ground := Ground.guard }], guard := some (16, false) }) (v := ?_) rfl (by kernel_rfl) (by kernel_rfl) (by kernel_rfl) (fun _ _ _ h => h) (Or.inl ⟨by rfl, ?_⟩) (by assumption) ?_
        rotate_left
        · (intro w hSw; (try dsimp only at hSw); (obtain ⟨RF, RG, RO⟩ := hSw); obtain ⟨k0, k1⟩ := cells2o RO; go_simp; try with_reducible rfl)
        try simp only [Act.put, List.setIfInBounds_toArray, List.set_cons_zero, List.set_cons_succ]
        refine wpAnyH_ready (rs := [22]) (by kernel_rfl) (by simp) ?_
        refine (AllReadyH.cons (o := { dst := some 184, op := Op.call { callee := Callee.value (Operand.func 22), args := #[Operand.tmp 181, Operand.tmp 183], argTypes := #[3, 22] }, type := 48, pos := "law.go:171", after := #[{ on := 19, ground := Ground.data }, { on := 21, ground := Ground.data }, { on := 16, ground := Ground.chain }, { on := 16, ground := Ground.guard }], guard := some (16, false) }) rfl (fun K hK => ?_) AllReadyH.nil)
        go_simp
        go_at_call 22
        refine (PF.out _).mono ?_
        rintro e wS ⟨rfl, hg⟩
        replace GW := Lib.hid (gr_trans GW.out (gr_trans (gr_drew (gr_refl _ none)) hg))
        go_wp2_with fail
        refine hK.out _ _ ?_ (fun hHeld => ?_)
        · exact ⟨Row.grown hHeld.1 hg (by simp), Row.grown hHeld.2.1 hg (by simp), Row.grown hHeld.2.2 hg (by simp)⟩
        clear hK K
        try simp only [Act.put, List.setIfInBounds_toArray, List.set_cons_zero, List.set_cons_succ]
        refine wpAnyH_take (i := 23) (oi := { dst := some 185, op := Op.binOp BinOp.eql 48 (Operand.tmp 179) (Operand.tmp 184) 48, type := 4, pos := "law.go:171", after := #[{ on := 17, ground := Ground.data }, { on := 22, ground := Ground.data }, { on := 16, ground := Ground.guard }], guard := some (16, false) }) (v := ?_) rfl (by kernel_rfl) (by kernel_rfl) (by kernel_rfl) (fun _ _ _ h => h) (Or.inl ⟨by rfl, ?_⟩) (by assumption) ?_
        rotate_left
        · (intro w hSw; (try dsimp only at hSw); go_simp; try with_reducible rfl)
        try simp only [Act.put, List.setIfInBounds_toArray, List.set_cons_zero, List.set_cons_succ]
        refine wpAnyH_take (i := 24) (oi := { dst := some 186, op := Op.pick (Operand.tmp 178) (Operand.const (Value.bool true)) (Operand.tmp 185), type := 4, pos := "law.go:171", after := #[{ on := 16, ground := Ground.data }, { on := 23, ground := Ground.data }, { on := 12, ground := Ground.guard }], guard := some (12, true) }) (v := ?_) rfl (by kernel_rfl) (by kernel_rfl) (by kernel_rfl) (fun _ _ _ h => h) (Or.inl ⟨by rfl, ?_⟩) (by assumption) ?_
        rotate_left
        · (intro w hSw; (try dsimp only at hSw); go_simp; try with_reducible rfl)
        try simp only [Act.put, List.setIfInBounds_toArray, List.set_cons_zero, List.set_cons_succ]
        refine wpAnyH_take (i := 25) (oi := { dst := some 187, op := Op.move (Operand.tmp 186), type := 4, pos := "law.go:171", after := #[{ on := 24, ground := Ground.data }, { on := 22, ground := Ground.chain }, { on := 12, ground := Ground.guard }], guard := some (12, true) }) (v := ?_) rfl (by kernel_rfl) (by kernel_rfl) (by kernel_rfl) (fun _ _ _ h => h) (Or.inl ⟨by rfl, ?_⟩) (by assumption) ?_
        rotate_left
        · (intro w hSw; (try dsimp only at hSw); go_simp; try with_reducible rfl)
        try simp only [Act.put, List.setIfInBounds_toArray, List.set_cons_zero, List.set_cons_succ]
        refine wpAnyH_take (i := 26) (oi := { dst := some 188, op := Op.load 48 (Operand.tmp 18), type := 48, pos := "law.go:171", after := #[{ on := 25, ground := Ground.guard }], guard := some (25, false) }) (v := undef) rfl (by kernel_rfl) (by kernel_rfl) (by kernel_rfl) (fun _ _ _ h => h) (Or.inr ⟨by rfl, rfl⟩) (by assumption) ?_
        try simp only [Act.put, List.setIfInBounds_toArray, List.set_cons_zero, List.set_cons_succ]
        refine wpAnyH_take (i := 27) (oi := { dst := some 189, op := Op.fieldAddr 54 (Operand.tmp 12) 8, type := 0, pos := "law.go:171", after := #[{ on := 25, ground := Ground.guard }], guard := some (25, false) }) (v := undef) rfl (by kernel_rfl) (by kernel_rfl) (by kernel_rfl) (fun _ _ _ h => h) (Or.inr ⟨by rfl, rfl⟩) (by assumption) ?_
        try simp only [Act.put, List.setIfInBounds_toArray, List.set_cons_zero, List.set_cons_succ]
        refine wpAnyH_take (i := 28) (oi := { dst := some 190, op := Op.load 3 (Operand.tmp 189), type := 3, pos := "law.go:171", after := #[{ on := 27, ground := Ground.data }, { on := 25, ground := Ground.guard }], guard := some (25, false) }) (v := undef) rfl (by kernel_rfl) (by kernel_rfl) (by kernel_rfl) (fun _ _ _ h => h) (Or.inr ⟨by rfl, rfl⟩) (by assumption) ?_
        try simp only [Act.put, List.setIfInBounds_toArray, List.set_cons_zero, List.set_cons_succ]
        refine wpAnyH_take (i := 29) (oi := { dst := some 191, op := Op.fieldAddr 54 (Operand.tmp 12) 1, type := 0, pos := "law.go:171", after := #[{ on := 25, ground := Ground.guard }], guard := some (25, false) }) (v := undef) rfl (by kernel_rfl) (by kernel_rfl) (by kernel_rfl) (fun _ _ _ h => h) (Or.inr ⟨by rfl, rfl⟩) (by assumption) ?_
        try simp only [Act.put, List.setIfInBounds_toArray, List.set_cons_zero, List.set_cons_succ]
        refine wpAnyH_take (i := 30) (oi := { dst := some 192, op := Op.load 22 (Operand.tmp 191), type := 22, pos := "law.go:171", after := #[{ on := 29, ground := Ground.data }, { on := 25, ground := Ground.guard }], guard := some (25, false) }) (v := undef) rfl (by kernel_rfl) (by kernel_rfl) (by kernel_rfl) (fun _ _ _ h => h) (Or.inr ⟨by rfl, rfl⟩) (by assumption) ?_
        try simp only [Act.put, List.setIfInBounds_toArray, List.set_cons_zero, List.set_cons_succ]
        refine wpAnyH_take (i := 31) (oi := { dst := some 193, op := Op.call { callee := Callee.value (Operand.func 23), args := #[Operand.tmp 190, Operand.tmp 192], argTypes := #[3, 22] }, type := 48, pos := "law.go:171", after := #[{ on := 28, ground := Ground.data }, { on := 30, ground := Ground.data }, { on := 25, ground := Ground.chain }, { on := 25, ground := Ground.guard }], guard := some (25, false) }) (v := undef) rfl (by kernel_rfl) (by kernel_rfl) (by kernel_rfl) (fun _ _ _ h => h) (Or.inr ⟨by rfl, rfl⟩) (by assumption) ?_
        try simp only [Act.put, List.setIfInBounds_toArray, List.set_cons_zero, List.set_cons_succ]
        refine wpAnyH_take (i := 32) (oi := { dst := some 194, op := Op.binOp BinOp.eql 48 (Operand.tmp 188) (Operand.tmp 193) 48, type := 4, pos := "law.go:171", after := #[{ on := 26, ground := Ground.data }, { on := 31, ground := Ground.data }, { on := 25, ground := Ground.guard }], guard := some (25, false) }) (v := undef) rfl (by kernel_rfl) (by kernel_rfl) (by kernel_rfl) (fun _ _ _ h => h) (Or.inr ⟨by rfl, rfl⟩) (by assumption) ?_
        try simp only [Act.put, List.setIfInBounds_toArray, List.set_cons_zero, List.set_cons_succ]
        refine wpAnyH_take (i := 33) (oi := { dst := some 195, op := Op.pick (Operand.tmp 187) (Operand.const (Value.bool true)) (Operand.tmp 194), type := 4, pos := "law.go:171", after := #[{ on := 25, ground := Ground.data }, { on := 32, ground := Ground.data }, { on := 12, ground := Ground.guard }], guard := some (12, true) }) (v := ?_) rfl (by kernel_rfl) (by kernel_rfl) (by kernel_rfl) (fun _ _ _ h => h) (Or.inl ⟨by rfl, ?_⟩) (by assumption) ?_
        rotate_left
        · (intro w hSw; (try dsimp only at hSw); go_simp; try with_reducible rfl)
        try simp only [Act.put, List.setIfInBounds_toArray, List.set_cons_zero, List.set_cons_succ]
        refine wpAnyH_take (i := 34) (oi := { dst := some 196, op := Op.pick (Operand.tmp 174) (Operand.tmp 195) (Operand.const (Value.bool false)), type := 4, pos := "law.go:171", after := #[{ on := 12, ground := Ground.data }, { on := 33, ground := Ground.data }], guard := none }) (v := ?_) rfl (by kernel_rfl) (by kernel_rfl) (by kernel_rfl) (fun _ _ _ h => h) (Or.inl ⟨by rfl, ?_⟩) (by assumption) ?_
        rotate_left
        · (intro w hSw; (try dsimp only at hSw); go_simp; try with_reducible rfl)
        try simp only [Act.put, List.setIfInBounds_toArray, List.set_cons_zero, List.set_cons_succ]
        refine wpAnyH_take (i := 35) (oi := { dst := some 6, op := Op.assign (Operand.tmp 196), type := 4, pos := "law.go:171", after := #[{ on := 34, ground := Ground.data }, { on := 31, ground := Ground.chain }, { on := 0, ground := Ground.phase }, { on := 1, ground := Ground.phase }, { on := 2, ground := Ground.phase }, { on := 3, ground := Ground.phase }, { on := 4, ground := Ground.phase }, { on := 5, ground := Ground.phase }, { on := 6, ground := Ground.phase }, { on := 7, ground := Ground.phase }, { on := 8, ground := Ground.phase }, { on := 9, ground := Ground.phase }, { on := 10, ground := Ground.phase }, { on := 11, ground := Ground.phase }, { on := 12, ground := Ground.phase }, { on := 13, ground := Ground.phase }, { on := 14, ground := Ground.phase }, { on := 15, ground := Ground.phase }, { on := 16, ground := Ground.phase }, { on := 17, ground := Ground.phase }, { on := 18, ground := Ground.phase }, { on := 19, ground := Ground.phase }, { on := 20, ground := Ground.phase }, { on := 21, ground := Ground.phase }, { on := 22, ground := Ground.phase }, { on := 23, ground := Ground.phase }, { on := 24, ground := Ground.phase }, { on := 25, ground := Ground.phase }, { on := 26, ground := Ground.phase }, { on := 27, ground := Ground.phase }, { on := 28, ground := Ground.phase }, { on := 29, ground := Ground.phase }, { on := 30, ground := Ground.phase }, { on := 31, ground := Ground.phase }, { on := 32, ground := Ground.phase }, { on := 33, ground := Ground.phase }, { on := 34, ground := Ground.phase }], guard := none }) (v := ?_) rfl (by kernel_rfl) (by kernel_rfl) (by kernel_rfl) (fun _ _ _ h => h) (Or.inl ⟨by rfl, ?_⟩) (by assumption) ?_
        rotate_left
        · (intro w hSw; (try dsimp only at hSw); go_simp; try with_reducible rfl)
        try simp only [Act.put, List.setIfInBounds_toArray, List.set_cons_zero, List.set_cons_succ]
        refine wpAnyH_done (by kernel_rfl) ?_ _
        go_wp2_with fail
        go_ret
        exact ⟨rfl, gr_below GW.out⟩
      · obtain rfl : va = rv := hv.symm
        have q0 := fun W => eql_Fs true rc va W
        have q1' := fun W => (eql_F true true rc va pf va W).trans (by rw [sameF_dec, decide_eq_false (fun h => NPF.out h.symm)] : _ = Result.ok (.bool false) W)
        unfold Eight at hS
        go_wp2_with fail
        go_region_held3 (fun w' => w'.cell? ⟨q1, 0, none⟩ = some (.bool true) ∧ w'.cell? ⟨q1, 1, none⟩ = some (.int .i64 rc) ∧ w'.cell? ⟨q1, 2, none⟩ = some (.int .u64 va) ∧ w'.cell? ⟨q2, 0, none⟩ = some (.bool true) ∧ w'.cell? ⟨q2, 1, none⟩ = some (.int .i64 rc) ∧ w'.cell? ⟨q2, 2, none⟩ = some (.int .u64 va) ∧ w'.cell? ⟨t, 1, none⟩ = some (.int .u64 va) ∧ w'.cell? ⟨t, 21, none⟩ = some (.int .i64 hw) ∧ Fin w q1 q2 t (opC ⟨kd, va, asi, pt, lv, gl, al, ev, [c0, c1, c2, c3, c4, c5, c6, c7, c8, c9, c10, c11], pr, hw, ata, xx⟩) true (rc) (va) w')
          (first | assumption | (exact Eight.on (va := va) (hw := hw) rfl rfl (gr_drew (gr_refl _ none)) (by assumption)) | (exact Eight.on (va := va) (hw := hw) rfl rfl (by assumption) (by assumption)))
          (first | (go_at_call 22; refine (PF.out _).mono ?_; rintro e w' ⟨rfl, hg⟩) | (go_at_call 23; refine (NA.out _).mono ?_; rintro e w' ⟨rfl, hg⟩))
        rename_i hHeld
        have gb := (Eight.fin hHeld).gr
        clear hS hHeld
        go_wp2_with fail
        go_ret
        exact ⟨rfl, gr_below gb⟩

theorem own : ownKnob Try.prog.godebug = none := by kernel_rfl
theorem laidOut : laidOutB Try.prog = true := by kernel_rfl

set_option maxRecDepth 100000 in
theorem lifted (os : Os) (started : os.Started) (H : Type) (enc : TypeId × Value → H) :
    ReturnsInHanded {} Try.checked os 5 .any (Rows.tlbFencesSpec.pre6 enc Try.prog Try.f5 Rows.tlbFencesRow.domain false) (Rows.tlbFencesSpec.post enc Try.prog Try.f5 false true false false) := by
  refine returnsInHanded_of_change (C := Try.checked) own started (by kernel_rfl) Try.func5
    (ChangeSpec.witness6 (enc := enc) (C := Try.checked) false ⟨#[], #[.agg #[.int .u8 0, .slice none 0 0], .slice none 0 0, .agg #[.int .u32 0, .int .u64 0]], []⟩ 8 (by kernel_rfl) (by kernel_rfl) (by kernel_rfl) (by kernel_rfl)) ?_
  intro W base args ds gs before hval0 hW hcnd _
  have hval : ∀ (j : Nat) t v, Try.f5.params[j]? = some t → args[j]? = some v → Value.okWide Try.prog W .any base t v := hval0
  have hW' := hW
  obtain ⟨p, q, hA0, hV, rfl, hfz, hnd⟩ := hW
  have hA : DataW.TrodAll enc Try.prog W 0 (fun _ => true) true Try.f5.params.toList args.toList ds p := hA0
  rw [Try.params5] at hA hval
  obtain ⟨v0, vs0, d0, ds0, p0, q0, hargs, rfl, rfl, h0, r0⟩ := trodAll_cons hA
  obtain ⟨v1, vs1, d1, ds1, p1, q1, rfl, rfl, rfl, h1, r1⟩ := trodAll_cons r0
  obtain ⟨v2, vs2, d2, ds2, p2, q2, rfl, rfl, rfl, h2, r2⟩ := trodAll_cons r1
  obtain ⟨rfl, rfl, rfl⟩ := trodAll_nil r2
  obtain rfl : args = #[v0, v1, v2] := by cases args; simp_all
  obtain ⟨rfl, rfl⟩ := trodVars_none hV
  clear hA0 hval0 hA
  have k0 := h0
  have lt0 : ∀ x ∈ p0, x.block < W.heap.size := by obtain ⟨m, hm⟩ := k0; exact DataW.trod_lt m _ _ _ hm
  obtain ⟨xs0, rfl, l0, m0, f0⟩ := Op.open_struct Try.underlying36 (hval 0 36 v0 rfl rfl) h0
  rw [show Try.prog.cellsOf 36 = 2 from by kernel_rfl] at l0
  obtain _ | ⟨c0_0, xs0⟩ := xs0
  · simp at l0
  obtain _ | ⟨c0_1, xs0⟩ := xs0
  · simp at l0
  obtain _ | ⟨_, _⟩ := xs0
  rotate_left
  · simp at l0
  clear h0
  obtain ⟨zf0_0, gf0_0⟩ := f0 0 _ rfl
  replace gf0_0 : DataW.trod enc Try.prog W 0 (fun _ => true) true m0 5 [c0_0] = some zf0_0 := gf0_0
  obtain ⟨a0_0, e0_0, _, w0_0⟩ := DataW.trod_int Try.underlying5 gf0_0
  simp at e0_0; subst e0_0
  obtain ⟨zf0_1, gf0_1⟩ := f0 1 _ rfl
  replace gf0_1 : DataW.trod enc Try.prog W 0 (fun _ => true) true m0 34 [c0_1] = some zf0_1 := gf0_1
  obtain ⟨A0_1, n0_1, k0_1, e0_1, mc0_1, cc0_1, raw0_1⟩ := Op.read_items Try.underlying34 Try.underlying40 (by kernel_rfl) (by kernel_rfl) (by decide) gf0_1
  subst e0_1
  have el0_1 : ∀ i, i < n0_1 → ∃ ad, A0_1 = some ad ∧ ad.block < W.heap.size ∧ ∃ (x0 : Int) (x1 : Int), (W.cell? (ad.add (i * 2 + 0)) = some (.int .u32 x0) ∧ (Lit.int .u32 x0).wf = true) ∧ (W.cell? (ad.add (i * 2 + 1)) = some (.int .u64 x1) ∧ (Lit.int .u64 x1).wf = true) := by
    intro i hi
    obtain ⟨ad, hA, hb, n, hf⟩ := raw0_1 i hi
    obtain ⟨u0, yy0, hu0, ht0⟩ := hf 0 _ rfl
    obtain ⟨x0, ee0, _, ww0⟩ := DataW.trod_int Try.underlying38 ht0; simp only [List.cons.injEq, and_true] at ee0; subst ee0
    obtain ⟨u1, yy1, hu1, ht1⟩ := hf 1 _ rfl
    obtain ⟨x1, ee1, _, ww1⟩ := DataW.trod_int Try.underlying22 ht1; simp only [List.cons.injEq, and_true] at ee1; subst ee1
    exact ⟨ad, hA, hb, x0, x1, ⟨hu0, ww0⟩, ⟨hu1, ww1⟩⟩
  have k1 := h1
  have lt1 : ∀ x ∈ p1, x.block < W.heap.size := by obtain ⟨m, hm⟩ := k1; exact DataW.trod_lt m _ _ _ hm
  obtain ⟨A1, m1, c1, rfl, mc1, cc1, raw1⟩ := Op.open_rows (K := 24) Try.underlying37 (by kernel_rfl) (by decide) (hval 1 37 v1 rfl rfl) h1
  have el1 : ∀ i, i < m1 → ∃ ad, A1 = some ad ∧ ad.block < W.heap.size ∧ ∃ (x0 : Int) (x1 : Int) (x2 : Int) (x3 : Int) (x4 : Int) (x5 : Bool) (x6 : Bool) (x7 : Bool) (x8 : Int) (x9 : Int) (x10 : Int) (x11 : Int) (x12 : Int) (x13 : Int) (x14 : Int) (x15 : Int) (x16 : Int) (x17 : Int) (x18 : Int) (x19 : Int) (x20 : Int) (x21 : Int) (x22 : Int) (x23 : Int), (W.cell? (ad.add (i * 24 + 0)) = some (.int .u8 x0) ∧ (Lit.int .u8 x0).wf = true) ∧ (W.cell? (ad.add (i * 24 + 1)) = some (.int .u64 x1) ∧ (Lit.int .u64 x1).wf = true) ∧ (W.cell? (ad.add (i * 24 + 2)) = some (.int .u64 x2) ∧ (Lit.int .u64 x2).wf = true) ∧ (W.cell? (ad.add (i * 24 + 3)) = some (.int .u64 x3) ∧ (Lit.int .u64 x3).wf = true) ∧ (W.cell? (ad.add (i * 24 + 4)) = some (.int .i64 x4) ∧ (Lit.int .i64 x4).wf = true) ∧ (W.cell? (ad.add (i * 24 + 5)) = some (.bool x5)) ∧ (W.cell? (ad.add (i * 24 + 6)) = some (.bool x6)) ∧ (W.cell? (ad.add (i * 24 + 7)) = some (.bool x7)) ∧ (W.cell? (ad.add (i * 24 + 8)) = some (.int .u64 x8) ∧ (Lit.int .u64 x8).wf = true) ∧ (W.cell? (ad.add (i * 24 + 9)) = some (.int .u64 x9) ∧ (Lit.int .u64 x9).wf = true) ∧ (W.cell? (ad.add (i * 24 + 10)) = some (.int .u64 x10) ∧ (Lit.int .u64 x10).wf = true) ∧ (W.cell? (ad.add (i * 24 + 11)) = some (.int .u64 x11) ∧ (Lit.int .u64 x11).wf = true) ∧ (W.cell? (ad.add (i * 24 + 12)) = some (.int .u64 x12) ∧ (Lit.int .u64 x12).wf = true) ∧ (W.cell? (ad.add (i * 24 + 13)) = some (.int .u64 x13) ∧ (Lit.int .u64 x13).wf = true) ∧ (W.cell? (ad.add (i * 24 + 14)) = some (.int .u64 x14) ∧ (Lit.int .u64 x14).wf = true) ∧ (W.cell? (ad.add (i * 24 + 15)) = some (.int .u64 x15) ∧ (Lit.int .u64 x15).wf = true) ∧ (W.cell? (ad.add (i * 24 + 16)) = some (.int .u64 x16) ∧ (Lit.int .u64 x16).wf = true) ∧ (W.cell? (ad.add (i * 24 + 17)) = some (.int .u64 x17) ∧ (Lit.int .u64 x17).wf = true) ∧ (W.cell? (ad.add (i * 24 + 18)) = some (.int .u64 x18) ∧ (Lit.int .u64 x18).wf = true) ∧ (W.cell? (ad.add (i * 24 + 19)) = some (.int .u64 x19) ∧ (Lit.int .u64 x19).wf = true) ∧ (W.cell? (ad.add (i * 24 + 20)) = some (.int .i64 x20) ∧ (Lit.int .i64 x20).wf = true) ∧ (W.cell? (ad.add (i * 24 + 21)) = some (.int .i64 x21) ∧ (Lit.int .i64 x21).wf = true) ∧ (W.cell? (ad.add (i * 24 + 22)) = some (.int .u32 x22) ∧ (Lit.int .u32 x22).wf = true) ∧ (W.cell? (ad.add (i * 24 + 23)) = some (.int .u64 x23) ∧ (Lit.int .u64 x23).wf = true) := by
    intro i hi
    obtain ⟨ad, hA, hb, mm, cs, yy, hl, hcl, ht⟩ := raw1 i hi
    obtain _ | ⟨c_0, cs⟩ := cs
    · simp at hl
    obtain _ | ⟨c_1, cs⟩ := cs
    · simp at hl
    obtain _ | ⟨c_2, cs⟩ := cs
    · simp at hl
    obtain _ | ⟨c_3, cs⟩ := cs
    · simp at hl
    obtain _ | ⟨c_4, cs⟩ := cs
    · simp at hl
    obtain _ | ⟨c_5, cs⟩ := cs
    · simp at hl
    obtain _ | ⟨c_6, cs⟩ := cs
    · simp at hl
    obtain _ | ⟨c_7, cs⟩ := cs
    · simp at hl
    obtain _ | ⟨c_8, cs⟩ := cs
    · simp at hl
    obtain _ | ⟨c_9, cs⟩ := cs
    · simp at hl
    obtain _ | ⟨c_10, cs⟩ := cs
    · simp at hl
    obtain _ | ⟨c_11, cs⟩ := cs
    · simp at hl
    obtain _ | ⟨c_12, cs⟩ := cs
    · simp at hl
    obtain _ | ⟨c_13, cs⟩ := cs
    · simp at hl
    obtain _ | ⟨c_14, cs⟩ := cs
    · simp at hl
    obtain _ | ⟨c_15, cs⟩ := cs
    · simp at hl
    obtain _ | ⟨c_16, cs⟩ := cs
    · simp at hl
    obtain _ | ⟨c_17, cs⟩ := cs
    · simp at hl
    obtain _ | ⟨c_18, cs⟩ := cs
    · simp at hl
    obtain _ | ⟨c_19, cs⟩ := cs
    · simp at hl
    obtain _ | ⟨c_20, cs⟩ := cs
    · simp at hl
    obtain _ | ⟨c_21, cs⟩ := cs
    · simp at hl
    obtain _ | ⟨c_22, cs⟩ := cs
    · simp at hl
    obtain _ | ⟨c_23, cs⟩ := cs
    · simp at hl
    obtain _ | ⟨_, _⟩ := cs
    rotate_left
    · simp at hl
    have hc_0 := hcl 0 (by decide)
    have hc_1 := hcl 1 (by decide)
    have hc_2 := hcl 2 (by decide)
    have hc_3 := hcl 3 (by decide)
    have hc_4 := hcl 4 (by decide)
    have hc_5 := hcl 5 (by decide)
    have hc_6 := hcl 6 (by decide)
    have hc_7 := hcl 7 (by decide)
    have hc_8 := hcl 8 (by decide)
    have hc_9 := hcl 9 (by decide)
    have hc_10 := hcl 10 (by decide)
    have hc_11 := hcl 11 (by decide)
    have hc_12 := hcl 12 (by decide)
    have hc_13 := hcl 13 (by decide)
    have hc_14 := hcl 14 (by decide)
    have hc_15 := hcl 15 (by decide)
    have hc_16 := hcl 16 (by decide)
    have hc_17 := hcl 17 (by decide)
    have hc_18 := hcl 18 (by decide)
    have hc_19 := hcl 19 (by decide)
    have hc_20 := hcl 20 (by decide)
    have hc_21 := hcl 21 (by decide)
    have hc_22 := hcl 22 (by decide)
    have hc_23 := hcl 23 (by decide)
    clear hcl
    simp only [List.getElem?_cons_zero, List.getElem?_cons_succ] at hc_0 hc_1 hc_2 hc_3 hc_4 hc_5 hc_6 hc_7 hc_8 hc_9 hc_10 hc_11 hc_12 hc_13 hc_14 hc_15 hc_16 hc_17 hc_18 hc_19 hc_20 hc_21 hc_22 hc_23
    obtain ⟨mq, fq⟩ := Op.read_struct Try.underlying54 ht
    obtain ⟨zq_0, gq_0⟩ := fq 0 _ rfl
    replace gq_0 : DataW.trod enc Try.prog W 0 (fun _ => true) true mq 5 [c_0] = some zq_0 := gq_0
    obtain ⟨x0, ee0, _, ww0⟩ := DataW.trod_int Try.underlying5 gq_0
    simp at ee0; subst ee0
    obtain ⟨zq_1, gq_1⟩ := fq 1 _ rfl
    replace gq_1 : DataW.trod enc Try.prog W 0 (fun _ => true) true mq 22 [c_1] = some zq_1 := gq_1
    obtain ⟨x1, ee1, _, ww1⟩ := DataW.trod_int Try.underlying22 gq_1
    simp at ee1; subst ee1
    obtain ⟨zq_2, gq_2⟩ := fq 2 _ rfl
    replace gq_2 : DataW.trod enc Try.prog W 0 (fun _ => true) true mq 22 [c_2] = some zq_2 := gq_2
    obtain ⟨x2, ee2, _, ww2⟩ := DataW.trod_int Try.underlying22 gq_2
    simp at ee2; subst ee2
    obtain ⟨zq_3, gq_3⟩ := fq 3 _ rfl
    replace gq_3 : DataW.trod enc Try.prog W 0 (fun _ => true) true mq 52 [c_3, c_4, c_5] = some zq_3 := gq_3
    obtain ⟨mq_3, fq_3⟩ := Op.read_struct Try.underlying52 gq_3
    obtain ⟨zq_3_0, gq_3_0⟩ := fq_3 0 _ rfl
    replace gq_3_0 : DataW.trod enc Try.prog W 0 (fun _ => true) true mq_3 22 [c_3] = some zq_3_0 := gq_3_0
    obtain ⟨x3, ee3, _, ww3⟩ := DataW.trod_int Try.underlying22 gq_3_0
    simp at ee3; subst ee3
    obtain ⟨zq_3_1, gq_3_1⟩ := fq_3 1 _ rfl
    replace gq_3_1 : DataW.trod enc Try.prog W 0 (fun _ => true) true mq_3 3 [c_4] = some zq_3_1 := gq_3_1
    obtain ⟨x4, ee4, _, ww4⟩ := DataW.trod_int Try.underlying3 gq_3_1
    simp at ee4; subst ee4
    obtain ⟨zq_3_2, gq_3_2⟩ := fq_3 2 _ rfl
    replace gq_3_2 : DataW.trod enc Try.prog W 0 (fun _ => true) true mq_3 4 [c_5] = some zq_3_2 := gq_3_2
    obtain ⟨x5, ee5, _⟩ := DataW.trod_bool Try.underlying4 gq_3_2
    simp at ee5; subst ee5
    obtain ⟨zq_4, gq_4⟩ := fq 4 _ rfl
    replace gq_4 : DataW.trod enc Try.prog W 0 (fun _ => true) true mq 4 [c_6] = some zq_4 := gq_4
    obtain ⟨x6, ee6, _⟩ := DataW.trod_bool Try.underlying4 gq_4
    simp at ee6; subst ee6
    obtain ⟨zq_5, gq_5⟩ := fq 5 _ rfl
    replace gq_5 : DataW.trod enc Try.prog W 0 (fun _ => true) true mq 4 [c_7] = some zq_5 := gq_5
    obtain ⟨x7, ee7, _⟩ := DataW.trod_bool Try.underlying4 gq_5
    simp at ee7; subst ee7
    obtain ⟨zq_6, gq_6⟩ := fq 6 _ rfl
    replace gq_6 : DataW.trod enc Try.prog W 0 (fun _ => true) true mq 24 [c_8, c_9, c_10, c_11, c_12, c_13, c_14, c_15, c_16, c_17, c_18, c_19] = some zq_6 := gq_6
    obtain ⟨mq_6, fq_6⟩ := Op.read_struct Try.underlying24 gq_6
    obtain ⟨zq_6_0, gq_6_0⟩ := fq_6 0 _ rfl
    replace gq_6_0 : DataW.trod enc Try.prog W 0 (fun _ => true) true mq_6 22 [c_8] = some zq_6_0 := gq_6_0
    obtain ⟨x8, ee8, _, ww8⟩ := DataW.trod_int Try.underlying22 gq_6_0
    simp at ee8; subst ee8
    obtain ⟨zq_6_1, gq_6_1⟩ := fq_6 1 _ rfl
    replace gq_6_1 : DataW.trod enc Try.prog W 0 (fun _ => true) true mq_6 22 [c_9] = some zq_6_1 := gq_6_1
    obtain ⟨x9, ee9, _, ww9⟩ := DataW.trod_int Try.underlying22 gq_6_1
    simp at ee9; subst ee9
    obtain ⟨zq_6_2, gq_6_2⟩ := fq_6 2 _ rfl
    replace gq_6_2 : DataW.trod enc Try.prog W 0 (fun _ => true) true mq_6 22 [c_10] = some zq_6_2 := gq_6_2
    obtain ⟨x10, ee10, _, ww10⟩ := DataW.trod_int Try.underlying22 gq_6_2
    simp at ee10; subst ee10
    obtain ⟨zq_6_3, gq_6_3⟩ := fq_6 3 _ rfl
    replace gq_6_3 : DataW.trod enc Try.prog W 0 (fun _ => true) true mq_6 22 [c_11] = some zq_6_3 := gq_6_3
    obtain ⟨x11, ee11, _, ww11⟩ := DataW.trod_int Try.underlying22 gq_6_3
    simp at ee11; subst ee11
    obtain ⟨zq_6_4, gq_6_4⟩ := fq_6 4 _ rfl
    replace gq_6_4 : DataW.trod enc Try.prog W 0 (fun _ => true) true mq_6 22 [c_12] = some zq_6_4 := gq_6_4
    obtain ⟨x12, ee12, _, ww12⟩ := DataW.trod_int Try.underlying22 gq_6_4
    simp at ee12; subst ee12
    obtain ⟨zq_6_5, gq_6_5⟩ := fq_6 5 _ rfl
    replace gq_6_5 : DataW.trod enc Try.prog W 0 (fun _ => true) true mq_6 22 [c_13] = some zq_6_5 := gq_6_5
    obtain ⟨x13, ee13, _, ww13⟩ := DataW.trod_int Try.underlying22 gq_6_5
    simp at ee13; subst ee13
    obtain ⟨zq_6_6, gq_6_6⟩ := fq_6 6 _ rfl
    replace gq_6_6 : DataW.trod enc Try.prog W 0 (fun _ => true) true mq_6 22 [c_14] = some zq_6_6 := gq_6_6
    obtain ⟨x14, ee14, _, ww14⟩ := DataW.trod_int Try.underlying22 gq_6_6
    simp at ee14; subst ee14
    obtain ⟨zq_6_7, gq_6_7⟩ := fq_6 7 _ rfl
    replace gq_6_7 : DataW.trod enc Try.prog W 0 (fun _ => true) true mq_6 22 [c_15] = some zq_6_7 := gq_6_7
    obtain ⟨x15, ee15, _, ww15⟩ := DataW.trod_int Try.underlying22 gq_6_7
    simp at ee15; subst ee15
    obtain ⟨zq_6_8, gq_6_8⟩ := fq_6 8 _ rfl
    replace gq_6_8 : DataW.trod enc Try.prog W 0 (fun _ => true) true mq_6 22 [c_16] = some zq_6_8 := gq_6_8
    obtain ⟨x16, ee16, _, ww16⟩ := DataW.trod_int Try.underlying22 gq_6_8
    simp at ee16; subst ee16
    obtain ⟨zq_6_9, gq_6_9⟩ := fq_6 9 _ rfl
    replace gq_6_9 : DataW.trod enc Try.prog W 0 (fun _ => true) true mq_6 22 [c_17] = some zq_6_9 := gq_6_9
    obtain ⟨x17, ee17, _, ww17⟩ := DataW.trod_int Try.underlying22 gq_6_9
    simp at ee17; subst ee17
    obtain ⟨zq_6_10, gq_6_10⟩ := fq_6 10 _ rfl
    replace gq_6_10 : DataW.trod enc Try.prog W 0 (fun _ => true) true mq_6 22 [c_18] = some zq_6_10 := gq_6_10
    obtain ⟨x18, ee18, _, ww18⟩ := DataW.trod_int Try.underlying22 gq_6_10
    simp at ee18; subst ee18
    obtain ⟨zq_6_11, gq_6_11⟩ := fq_6 11 _ rfl
    replace gq_6_11 : DataW.trod enc Try.prog W 0 (fun _ => true) true mq_6 22 [c_19] = some zq_6_11 := gq_6_11
    obtain ⟨x19, ee19, _, ww19⟩ := DataW.trod_int Try.underlying22 gq_6_11
    simp at ee19; subst ee19
    obtain ⟨zq_7, gq_7⟩ := fq 7 _ rfl
    replace gq_7 : DataW.trod enc Try.prog W 0 (fun _ => true) true mq 3 [c_20] = some zq_7 := gq_7
    obtain ⟨x20, ee20, _, ww20⟩ := DataW.trod_int Try.underlying3 gq_7
    simp at ee20; subst ee20
    obtain ⟨zq_8, gq_8⟩ := fq 8 _ rfl
    replace gq_8 : DataW.trod enc Try.prog W 0 (fun _ => true) true mq 3 [c_21] = some zq_8 := gq_8
    obtain ⟨x21, ee21, _, ww21⟩ := DataW.trod_int Try.underlying3 gq_8
    simp at ee21; subst ee21
    obtain ⟨zq_9, gq_9⟩ := fq 9 _ rfl
    replace gq_9 : DataW.trod enc Try.prog W 0 (fun _ => true) true mq 38 [c_22] = some zq_9 := gq_9
    obtain ⟨x22, ee22, _, ww22⟩ := DataW.trod_int Try.underlying38 gq_9
    simp at ee22; subst ee22
    obtain ⟨zq_10, gq_10⟩ := fq 10 _ rfl
    replace gq_10 : DataW.trod enc Try.prog W 0 (fun _ => true) true mq 22 [c_23] = some zq_10 := gq_10
    obtain ⟨x23, ee23, _, ww23⟩ := DataW.trod_int Try.underlying22 gq_10
    simp at ee23; subst ee23
    exact ⟨ad, hA, hb, x0, x1, x2, x3, x4, x5, x6, x7, x8, x9, x10, x11, x12, x13, x14, x15, x16, x17, x18, x19, x20, x21, x22, x23, ⟨hc_0, ww0⟩, ⟨hc_1, ww1⟩, ⟨hc_2, ww2⟩, ⟨hc_3, ww3⟩, ⟨hc_4, ww4⟩, hc_5, hc_6, hc_7, ⟨hc_8, ww8⟩, ⟨hc_9, ww9⟩, ⟨hc_10, ww10⟩, ⟨hc_11, ww11⟩, ⟨hc_12, ww12⟩, ⟨hc_13, ww13⟩, ⟨hc_14, ww14⟩, ⟨hc_15, ww15⟩, ⟨hc_16, ww16⟩, ⟨hc_17, ww17⟩, ⟨hc_18, ww18⟩, ⟨hc_19, ww19⟩, ⟨hc_20, ww20⟩, ⟨hc_21, ww21⟩, ⟨hc_22, ww22⟩, ⟨hc_23, ww23⟩⟩
  have k2 := h2
  have lt2 : ∀ x ∈ p2, x.block < W.heap.size := by obtain ⟨m, hm⟩ := k2; exact DataW.trod_lt m _ _ _ hm
  obtain ⟨xs2, rfl, l2, m2, f2⟩ := Op.open_struct Try.underlying40 (hval 2 40 v2 rfl rfl) h2
  rw [show Try.prog.cellsOf 40 = 2 from by kernel_rfl] at l2
  obtain _ | ⟨c2_0, xs2⟩ := xs2
  · simp at l2
  obtain _ | ⟨c2_1, xs2⟩ := xs2
  · simp at l2
  obtain _ | ⟨_, _⟩ := xs2
  rotate_left
  · simp at l2
  clear h2
  obtain ⟨y2_0, g2_0⟩ := f2 0 _ rfl
  replace g2_0 : DataW.trod enc Try.prog W 0 (fun _ => true) true m2 38 [c2_0] = some y2_0 := g2_0
  obtain ⟨a2_0, e2_0, _, w2_0⟩ := DataW.trod_int Try.underlying38 g2_0
  simp at e2_0; subst e2_0
  obtain ⟨y2_1, g2_1⟩ := f2 1 _ rfl
  replace g2_1 : DataW.trod enc Try.prog W 0 (fun _ => true) true m2 22 [c2_1] = some y2_1 := g2_1
  obtain ⟨a2_1, e2_1, _, w2_1⟩ := DataW.trod_int Try.underlying22 g2_1
  simp at e2_1; subst e2_1
  refine (walk W a0_0 w0_0 A0_1 n0_1 k0_1 mc0_1 cc0_1 el0_1 A1 m1 c1 mc1 cc1 el1 a2_0 w2_0 a2_1 w2_1).mono fun e W' ⟨he, bel⟩ => ?_
  subst he
  exact ⟨_, rfl, _, _, _, [], _, [], hW', trodAll_mk1 (shut_bool Try.underlying4 _), (trodAll_cons_mk (Below.trod laidOut (by kernel_rfl) (of_decide_eq_true (by kernel_rfl)) k0 bel lt0) (trodAll_cons_mk (Below.trod laidOut (by kernel_rfl) (of_decide_eq_true (by kernel_rfl)) k1 bel lt1) (trodAll_cons_mk (Below.trod laidOut (by kernel_rfl) (of_decide_eq_true (by kernel_rfl)) k2 bel lt2) trodAll_mk0))), rfl, bel.frame _, fun h => by cases h⟩

theorem over : Rows.tlbFencesRow.holds Try.pinned (OpenSpec.ofChange Rows.tlbFencesSpec) :=
  OpenClaim.holds_of_wide 5 Try.f5 rfl rfl rfl rfl rfl rfl rfl ⟨rfl, rfl, rfl, rfl, rfl⟩ rfl rfl rfl rfl rfl (by kernel_rfl) Try.func5 (by kernel_rfl)
    (of_decide_eq_true (by kernel_rfl)) (by unfold Func.isWrapper; first | (rw [if_pos (by decide +kernel)]; kernel_rfl) | (rw [if_neg (by decide +kernel)]; exact ⟨rfl, rfl⟩))
    (fun os started H enc _ => lifted os started H enc)

/-- The statement. -/
theorem proved : Rows.TlbFencesSaid := over
#print axioms proved

end Go.Proofs.Ytkfmcbhoendocaa.tlbFences
