/-
  Proved: for any most, any memory, and any things that are done, the law TlbPlays returns true: the program's row of leaves answers as the document's own, step by step.
  Conditions: none beyond the statement's own.
-/
import Derived.Test.YtkfmcbhoendocaaRows
import Derived.Test.YtkfmcbhoendocaaLayO
import Derived.Lib.Hide
import Derived.Deep.Cut
import Derived.Deep.CutBlock
import Derived.Test.YtkfmcbhoendocaaTlbO
import Derived.Test.YtkfmcbhoendocaaTlbRp
import Derived.Test.YtkfmcbhoendocaaWalkQ
import Derived.StillTailTactics
import Derived.BigQuiet
import Derived.Deep.QuietTactic
import Derived.Deep.RegionHeld3
namespace Go.Proofs.Ytkfmcbhoendocaa.tlbPlays
open Go Go.ChangeShapes Go.WideShapes Go.ChangeAt Go.RowKit W M D A C P K
set_option linter.unusedVariables false
set_option linter.unusedSimpArgs false

theorem quietly {P : Program} {f : FuncId} {args : Array Value} {W : World} {v : Value} {Q : World → Prop}
    (h : Calls P f args W fun e w' => e = .returned v ∧ W = w') (hQ : Q W) : Calls P f args W fun e w' => e = .returned v ∧ Q w' :=
  h.mono fun _ _ ⟨he, hw⟩ => ⟨he, hw ▸ hQ⟩
theorem neq_Ls (a b : Int) (c : Bool) (w : World) :
    (binOp .neq 52 (.agg #[.int .u64 a, .int .i64 b, .bool c]) (.agg #[.int .u64 a, .int .i64 b, .bool c])).run Try.prog w = .ok (.bool false) w := by
  have h := equal_L c c a b a b w
  unfold vLeaf at h
  rw [run_neq_struct, h, Result.andThen_ok]
  simp
set_option maxRecDepth 100000 in
set_option maxHeartbeats 8000000 in
theorem walk (w : World) (a0 : Int) (w0 : (Lit.int .i64 a0).wf = true) (a1_0 : Int) (w1_0 : (Lit.int .u8 a1_0).wf = true) (A1_1 : Option Addr) (n1_1 k1_1 : Nat) (mc1_1 : n1_1 ≤ k1_1) (cc1_1 : k1_1 ≤ 9223372036854775807) (el1_1 : ∀ i, i < n1_1 → ∃ ad, A1_1 = some ad ∧ ad.block < w.heap.size ∧ ∃ (x0 : Int) (x1 : Int), (w.cell? (ad.add (i * 2 + 0)) = some (.int .u32 x0) ∧ (Lit.int .u32 x0).wf = true) ∧ (w.cell? (ad.add (i * 2 + 1)) = some (.int .u64 x1) ∧ (Lit.int .u64 x1).wf = true)) (A2 : Option Addr) (m2 c2 : Nat) (mc2 : m2 ≤ c2) (cc2 : c2 ≤ 9223372036854775807) (el2 : ∀ i, i < m2 → ∃ ad, A2 = some ad ∧ ad.block < w.heap.size ∧ ∃ (x0 : Int) (x1 : Int) (x2 : Int) (x3 : Int) (x4 : Int) (x5 : Bool) (x6 : Bool) (x7 : Bool) (x8 : Int) (x9 : Int) (x10 : Int) (x11 : Int) (x12 : Int) (x13 : Int) (x14 : Int) (x15 : Int) (x16 : Int) (x17 : Int) (x18 : Int) (x19 : Int) (x20 : Int) (x21 : Int) (x22 : Int) (x23 : Int), (w.cell? (ad.add (i * 24 + 0)) = some (.int .u8 x0) ∧ (Lit.int .u8 x0).wf = true) ∧ (w.cell? (ad.add (i * 24 + 1)) = some (.int .u64 x1) ∧ (Lit.int .u64 x1).wf = true) ∧ (w.cell? (ad.add (i * 24 + 2)) = some (.int .u64 x2) ∧ (Lit.int .u64 x2).wf = true) ∧ (w.cell? (ad.add (i * 24 + 3)) = some (.int .u64 x3) ∧ (Lit.int .u64 x3).wf = true) ∧ (w.cell? (ad.add (i * 24 + 4)) = some (.int .i64 x4) ∧ (Lit.int .i64 x4).wf = true) ∧ (w.cell? (ad.add (i * 24 + 5)) = some (.bool x5)) ∧ (w.cell? (ad.add (i * 24 + 6)) = some (.bool x6)) ∧ (w.cell? (ad.add (i * 24 + 7)) = some (.bool x7)) ∧ (w.cell? (ad.add (i * 24 + 8)) = some (.int .u64 x8) ∧ (Lit.int .u64 x8).wf = true) ∧ (w.cell? (ad.add (i * 24 + 9)) = some (.int .u64 x9) ∧ (Lit.int .u64 x9).wf = true) ∧ (w.cell? (ad.add (i * 24 + 10)) = some (.int .u64 x10) ∧ (Lit.int .u64 x10).wf = true) ∧ (w.cell? (ad.add (i * 24 + 11)) = some (.int .u64 x11) ∧ (Lit.int .u64 x11).wf = true) ∧ (w.cell? (ad.add (i * 24 + 12)) = some (.int .u64 x12) ∧ (Lit.int .u64 x12).wf = true) ∧ (w.cell? (ad.add (i * 24 + 13)) = some (.int .u64 x13) ∧ (Lit.int .u64 x13).wf = true) ∧ (w.cell? (ad.add (i * 24 + 14)) = some (.int .u64 x14) ∧ (Lit.int .u64 x14).wf = true) ∧ (w.cell? (ad.add (i * 24 + 15)) = some (.int .u64 x15) ∧ (Lit.int .u64 x15).wf = true) ∧ (w.cell? (ad.add (i * 24 + 16)) = some (.int .u64 x16) ∧ (Lit.int .u64 x16).wf = true) ∧ (w.cell? (ad.add (i * 24 + 17)) = some (.int .u64 x17) ∧ (Lit.int .u64 x17).wf = true) ∧ (w.cell? (ad.add (i * 24 + 18)) = some (.int .u64 x18) ∧ (Lit.int .u64 x18).wf = true) ∧ (w.cell? (ad.add (i * 24 + 19)) = some (.int .u64 x19) ∧ (Lit.int .u64 x19).wf = true) ∧ (w.cell? (ad.add (i * 24 + 20)) = some (.int .i64 x20) ∧ (Lit.int .i64 x20).wf = true) ∧ (w.cell? (ad.add (i * 24 + 21)) = some (.int .i64 x21) ∧ (Lit.int .i64 x21).wf = true) ∧ (w.cell? (ad.add (i * 24 + 22)) = some (.int .u32 x22) ∧ (Lit.int .u32 x22).wf = true) ∧ (w.cell? (ad.add (i * 24 + 23)) = some (.int .u64 x23) ∧ (Lit.int .u64 x23).wf = true)) :
    Calls Try.prog 7 #[.int .i64 a0, .agg #[.int .u8 a1_0, .slice A1_1 n1_1 k1_1], .slice A2 m2 c2] w fun e w' => e = .returned (.bool true) ∧ Below w.heap.size w w' := by
  have hm0 : I64 a0 := bounds_i64 w0
  have ha : 0 ≤ a1_0 ∧ a1_0 ≤ 255 := bounds_u8 w1_0
  obtain ⟨f, h, hE⟩ := elems_of el1_1
  obtain ⟨bs, hbs⟩ : ∃ bs, bs = fillV f h (min n1_1 64) (List.replicate ((1 + a1_0 % 16).toNat * 4096) 0) := ⟨_, rfl⟩
  have BT := Lib.hid (fun W hW => both2_c a1_0 ha A1_1 n1_1 k1_1 mc1_1 cc1_1 f h W hW)
  rw [← hbs] at BT
  have HE := Lib.hid hE
  obtain ⟨F, hOps⟩ := ops_of el2
  have HO := Lib.hid hOps
  have NW := Lib.hid (fun W => TNew_c a0 hm0 W)
  have NR := Lib.hid (fun W => rNew_tlb a0 hm0 W)
  have hmost := T.most_le a0
  clear hbs w0 w1_0 el1_1 el2 hE hOps hm0
  have HR0 := Lib.hid (Row.fresh w 36 [.int .u8 a1_0, .slice A1_1 n1_1 k1_1])
  have HG0 := Lib.hid (gr_alloc (gr_refl w none) (.cells #[.int .u8 a1_0, .slice A1_1 n1_1 k1_1] 36))
  generalize T.mostV a0 = most at *
  go_enter Try.func7, Try.ntmps7
  go_wp2_with fail
  generalize w.alloc (.cells #[.int .u8 a1_0, .slice A1_1 n1_1 k1_1] 36) = V at *
  refine (shown12_c _).mono ?_
  rintro e w1 ⟨rfl, hG⟩
  have hR1 := HR0.out.grown hG (by simp)
  have hG1 := gr_trans HG0.out hG
  have hE1 := (HE.out.turn (w' := w1) (fun ad had => cell_grown hG1 had (by simp))).more hG1.size
  clear HR0 HG0 HE hG
  obtain ⟨b, hb⟩ : ∃ b, b = w.heap.size := ⟨_, rfl⟩
  rw [← hb] at hR1 ⊢
  have HBB := Lib.hid hb
  clear hb
  have m0 : w1.cell? ⟨b, 0, none⟩ = some (.int .u8 a1_0) := hR1.cell 0
  have m1 : w1.cell? ⟨b, 1, none⟩ = some (.slice A1_1 n1_1 k1_1) := hR1.cell 1
  have lt := hR1.lt
  go_wp2_with fail
  refine (BT.out _ hE1).mono ?_
  rintro e w2 ⟨pm, gm, pm', gm', rfl, hA, hA2, hG, hord⟩
  have hlo : w.heap.size ≤ gm ∧ w.heap.size ≤ gm' ∧ gm ≠ gm' := by have := hG1.size; omega
  have hT2 := hR1.grown hG (by simp)
  have hG2 := gr_trans hG1 hG
  clear hR1 hG hG1 hE1 m0 m1 lt BT hord
  go_wp2_with fail
  refine (NW.out _).mono ?_
  rintro e w3 ⟨rfl, hN, hG⟩
  have hG3 := gr_trans hG2 hG
  have hT3 := hT2.grown hG (by simp)
  have hA3 := hA.kept hG
  have hA3' := hA2.kept hG
  have hN3 := held_less hN hG2.size
  clear hT2 hA hA2 hN hG hG2 NW
  generalize w2.heap.size = p at *
  go_wp2_with fail
  refine (NR.out _).mono ?_
  rintro e w4 ⟨rfl, hQ, hG⟩
  obtain ⟨u, hu⟩ : ∃ u, w3.heap.size = u := ⟨_, rfl⟩
  have hL : Bg w 36 b [.int .u8 a1_0, .slice A1_1 n1_1 k1_1] pm gm pm' gm' bs bs p u most 0 0 [] [] w4 := ⟨hT3.grown hG (by simp), hA3.kept hG, hA3'.kept hG, ⟨_, hN3.kept hG⟩, ⟨_, hu ▸ hQ⟩, gr_trans hG3 hG, hu ▸ hG3.size, hlo.1, hlo.2.1, hlo.2.2⟩
  rw [hu]
  clear hT3 hA3 hA3' hN3 hQ hG hG3 NR hlo hu
  have HL := Lib.hid hL
  clear hL
  go_wp2_with fail
  go_loopw [10, 12] (fun tp i wr => ∃ (j p : Nat) (n : Int) (L : List T.Lf) (bs : List Int) (T0 : TypeId) (t0 : Nat) (l0 : List Value), tp = .pointer (some ⟨p, 0, none⟩) ∧ i = .int .i64 j ∧ j ≤ m2 ∧ j ≤ 40 ∧ Bg w T0 t0 l0 pm gm pm' gm' bs bs p u most n n L L wr) (fun _ i _ => 40 - (intOf i).toNat)
  case atStart => exact ⟨0, _, _, _, _, _, _, _, rfl, rfl, by omega, by omega, HL.out⟩
  case round =>
    clear HL
    obtain ⟨j, p, n, L, bs, T0, t0, l0, rfl, rfl, hj, hj40, hL⟩ := hrel
    have HL := Lib.hid hL
    by_cases hlt : j < m2
    · by_cases h40 : j < 40
      · obtain ⟨ad, rfl, hadb, hcell, hfine⟩ := (HO.out.go hL.gr) j hlt
        have hadw : ad.block < wr.heap.size := by have := hL.gr.size; omega
        obtain ⟨⟨kd, va, asi, pt, lv, gl, al, ev, cc, pr, hw, ata, xx⟩, ho⟩ : ∃ o, o = F j := ⟨_, rfl⟩
        rw [← ho] at hcell hfine
        obtain ⟨hkd, hva, has, hpt, hlv, hcc, hpr, hhw, hata, hxx⟩ := hfine
        simp only at hkd hva has hpt hlv hcc hpr hhw hata hxx
        obtain ⟨c0, c1, c2, c3, c4, c5, c6, c7, c8, c9, c10, c11, rfl⟩ := twelve hcc.1
        clear ho
        have HLD := Lib.hid (show ∀ q v, ([.int .u8 kd, .int .u64 va, .int .u64 asi, .int .u64 pt, .int .i64 lv, .bool gl, .bool al, .bool ev, .int .u64 c0, .int .u64 c1, .int .u64 c2, .int .u64 c3, .int .u64 c4, .int .u64 c5, .int .u64 c6, .int .u64 c7, .int .u64 c8, .int .u64 c9, .int .u64 c10, .int .u64 c11, .int .i64 pr, .int .i64 hw, .int .u32 ata, .int .u64 xx] : List Value)[q]? = some v → wr.cell? ((ad.add (j * 24)).add q) = some v from fun q v hq => by
          have hql : q < 24 := (List.getElem?_eq_some_iff.1 hq).1
          rw [Deep.add_add, hcell q hql]
          exact hq)
        have HFS := Lib.hid (fresh_set wr 54 [.int .u8 0, .int .u64 0, .int .u64 0, .int .u64 0, .int .i64 0, .bool false, .bool false, .bool false, .int .u64 0, .int .u64 0, .int .u64 0, .int .u64 0, .int .u64 0, .int .u64 0, .int .u64 0, .int .u64 0, .int .u64 0, .int .u64 0, .int .u64 0, .int .u64 0, .int .i64 0, .int .i64 0, .int .u32 0, .int .u64 0] (opC ⟨kd, va, asi, pt, lv, gl, al, ev, [c0, c1, c2, c3, c4, c5, c6, c7, c8, c9, c10, c11], pr, hw, ata, xx⟩) rfl)
        have HX := Lib.hid (And.intro hva (And.intro has (And.intro hpt (And.intro hlv (And.intro hcc (And.intro hpr (And.intro hhw (And.intro hata hxx))))))))
        clear hcell hL hva has hpt hlv hata hxx hcc hadb hpr hhw
        go_upto_region 11 with (first | (with_reducible refine wpList_load_at rfl 54 (.tmp 56) rfl (ad.add (j * 24)) rfl [.int .u8 kd, .int .u64 va, .int .u64 asi, .int .u64 pt, .int .i64 lv, .bool gl, .bool al, .bool ev, .int .u64 c0, .int .u64 c1, .int .u64 c2, .int .u64 c3, .int .u64 c4, .int .u64 c5, .int .u64 c6, .int .u64 c7, .int .u64 c8, .int .u64 c9, .int .u64 c10, .int .u64 c11, .int .i64 pr, .int .i64 hw, .int .u32 ata, .int .u64 xx] _ HLD.out Try.underlying54 rfl (by kernel_rfl) ?_) | (refine wpList_store_op rfl (.tmp 13) (.tmp 57) rfl ⟨kd, va, asi, pt, lv, gl, al, ev, [c0, c1, c2, c3, c4, c5, c6, c7, c8, c9, c10, c11], pr, hw, ata, xx⟩ rfl [.int .u8 0, .int .u64 0, .int .u64 0, .int .u64 0, .int .i64 0, .bool false, .bool false, .bool false, .int .u64 0, .int .u64 0, .int .u64 0, .int .u64 0, .int .u64 0, .int .u64 0, .int .u64 0, .int .u64 0, .int .u64 0, .int .u64 0, .int .u64 0, .int .u64 0, .int .i64 0, .int .i64 0, .int .u32 0, .int .u64 0] rfl rfl rfl ?_; obtain ⟨hT0, hGS⟩ := HFS.out; have hL0 := (HL.out.keep hGS).op hT0; clear HFS hGS HLD hadw HL; generalize ((wr.alloc (.cells ([.int .u8 0, .int .u64 0, .int .u64 0, .int .u64 0, .int .i64 0, .bool false, .bool false, .bool false, .int .u64 0, .int .u64 0, .int .u64 0, .int .u64 0, .int .u64 0, .int .u64 0, .int .u64 0, .int .u64 0, .int .u64 0, .int .u64 0, .int .u64 0, .int .u64 0, .int .i64 0, .int .i64 0, .int .u32 0, .int .u64 0] : List Value).toArray 54)).setCells wr.heap.size 0 (opC ⟨kd, va, asi, pt, lv, gl, al, ev, [c0, c1, c2, c3, c4, c5, c6, c7, c8, c9, c10, c11], pr, hw, ata, xx⟩)) = U at *; generalize wr.heap.size = t at *; have HL0 := Lib.hid hL0; clear hL0 hT0))
        have k0 : U.cell? ⟨t, 0, none⟩ = some (.int .u8 kd) := HL0.out.opr.cell 0
        have lt := HL0.out.opr.lt
        have hand := and_7 kd hkd
        go_upto_block 2 with (fail)
        clear k0 lt
        obtain ⟨hva, has, hpt, hlv, hcc, hpr, hhw, hata, hxx⟩ := HX.out
        clear HX
        go_cut [10, 14, 15, 16, 17, 18, 19, 20, 21, 22, 23] from 61 to 199 (fun tp x14 x15 x16 x17 x18 x19 x20 x21 x22 x23 wc => ∃ (p : Nat) (n : Int) (L : List T.Lf) (bs : List Int), tp = .pointer (some ⟨p, 0, none⟩) ∧ Bg w 54 t (opC ⟨kd, va, asi, pt, lv, gl, al, ev, [c0, c1, c2, c3, c4, c5, c6, c7, c8, c9, c10, c11], pr, hw, ata, xx⟩) pm gm pm' gm' bs bs p u most n n L L wc)
        case first =>
          have HB := HL0
          clear HL0
          generalize U = wc at *
          have hm8 : 0 ≤ kd % 8 ∧ kd % 8 < 8 := by omega
          clear hand hkd
          generalize kd % 8 = m8 at *
          obtain rfl | rfl | rfl | rfl | rfl | rfl | rfl | rfl : m8 = 0 ∨ m8 = 1 ∨ m8 = 2 ∨ m8 = 3 ∨ m8 = 4 ∨ m8 = 5 ∨ m8 = 6 ∨ m8 = 7 := by omega
          all_goals clear hm8
          · have FD := Lib.hid (fun v W hW => Find_c w.heap.size p most v n L va asi hva has W hW)
            have FR := Lib.hid (fun v W hW => rFind_c u most v n L va asi hva has W hW)
            obtain ⟨x, y, g, fd, e1, e2⟩ : ∃ x y g fd, vGot (T.findT L va asi) = .agg #[.int .u64 x, .int .i64 y, .bool g] ∧ (T.findT L va asi).isSome = fd := ⟨_, _, _, _, rfl, rfl⟩
            rw [e1, e2] at FD FR
            clear e1 e2
            have k1 : wc.cell? ⟨t, 1, none⟩ = some (.int .u64 va) := HB.out.opr.cell 1
            have k2 : wc.cell? ⟨t, 2, none⟩ = some (.int .u64 asi) := HB.out.opr.cell 2
            have lt := HB.out.opr.lt
            obtain ⟨v1, hv1⟩ := HB.out.row
            obtain ⟨v2, hv2⟩ := HB.out.row2
            have HV := Lib.hid (And.intro hv1 hv2)
            clear hv1 hv2
            go_wp2_with fail
            refine (FD.out _ _ HV.out.1).mono ?_
            rintro e w5 ⟨rfl, hG⟩
            have hA := gr_alloc (gr_refl w5 none) (.cells #[.int .u64 x, .int .i64 y, .bool g] 52)
            have g5 := gr_trans hG hA
            have H5 := Lib.hid (And.intro (HB.out.keep g5) (And.intro (HV.out.2.kept g5) (Row.fresh w5 52 [.int .u64 x, .int .i64 y, .bool g])))
            clear hG hA g5 HV
            clear k1 k2 lt
            have k1 : (w5.alloc (.cells #[.int .u64 x, .int .i64 y, .bool g] 52)).cell? ⟨t, 1, none⟩ = some (.int .u64 va) := H5.out.1.opr.cell 1
            have k2 : (w5.alloc (.cells #[.int .u64 x, .int .i64 y, .bool g] 52)).cell? ⟨t, 2, none⟩ = some (.int .u64 asi) := H5.out.1.opr.cell 2
            have lt := H5.out.1.opr.lt
            go_wp2_with fail
            refine (FR.out _ _ H5.out.2.1).mono ?_
            rintro e w6 ⟨rfl, hG⟩
            have hA := gr_alloc (gr_refl w6 none) (.cells #[.int .u64 x, .int .i64 y, .bool g] 52)
            have g6 := gr_trans hG hA
            have r5 := H5.out.2.2.grown g6 (by simp)
            have r6 := Row.fresh w6 52 [.int .u64 x, .int .i64 y, .bool g]
            have H6 := Lib.hid (H5.out.1.keep g6)
            clear hG hA g6 H5
            clear k1 k2 lt
            obtain ⟨x0, x1, x2⟩ := cells3 r5
            obtain ⟨y0, y1, y2⟩ := cells3 r6
            have nl := fun W => neq_Ls x y g W
            have nb : (fd != fd) = false := by cases fd <;> rfl
            clear r5 r6
            go_wp2_with fail
            go_meet
            case rel => exact ⟨p, n, L, bs, rfl, H6.out⟩
          · have hk : T.Fine (⟨va, asi, pt, lv % 4 % 3, gl⟩ : T.Lf) := ⟨hva, has, hpt, by show 0 ≤ lv % 4 % 3; omega, by show lv % 4 % 3 ≤ 2; omega⟩
            have LC := Lib.hid (fun W => leaf_c pt lv gl W)
            have PU := Lib.hid (fun v W hB hW => TPut_c w.heap.size p most v n L (⟨va, asi, pt, lv % 4 % 3, gl⟩ : T.Lf) hk W hB hW)
            have PR := Lib.hid (fun v W hW => rPut_tlb u most v n L (⟨va, asi, pt, lv % 4 % 3, gl⟩ : T.Lf) hk W hW)
            unfold vLeaf at PU PR
            simp only at PU PR
            clear hk
            generalize hm3 : lv % 4 % 3 = lz at *
            have s0 : wc.cell? ⟨t, 1, none⟩ = some (.int .u64 va) ∧ wc.cell? ⟨t, 2, none⟩ = some (.int .u64 asi) ∧ wc.cell? ⟨t, 3, none⟩ = some (.int .u64 pt) ∧ wc.cell? ⟨t, 4, none⟩ = some (.int .i64 lv) ∧ wc.cell? ⟨t, 5, none⟩ = some (.bool gl) ∧ w.grownBy wc none := ⟨HB.out.opr.cell 1, HB.out.opr.cell 2, HB.out.opr.cell 3, HB.out.opr.cell 4, HB.out.opr.cell 5, HB.out.gr⟩
            go_wp2_with fail
            go_region_held3 (fun w' => w'.cell? ⟨t, 1, none⟩ = some (.int .u64 va) ∧ w'.cell? ⟨t, 2, none⟩ = some (.int .u64 asi) ∧ w'.cell? ⟨t, 3, none⟩ = some (.int .u64 pt) ∧ w'.cell? ⟨t, 4, none⟩ = some (.int .i64 lv) ∧ w'.cell? ⟨t, 5, none⟩ = some (.bool gl) ∧ w.grownBy w' none)
              (first | assumption | (exact ⟨(HB.out.keep (gr_drew (gr_refl wc none))).opr.cell 1, (HB.out.keep (gr_drew (gr_refl wc none))).opr.cell 2, (HB.out.keep (gr_drew (gr_refl wc none))).opr.cell 3, (HB.out.keep (gr_drew (gr_refl wc none))).opr.cell 4, (HB.out.keep (gr_drew (gr_refl wc none))).opr.cell 5, (HB.out.keep (gr_drew (gr_refl wc none))).gr⟩))
              (first
                | (go_at_call 27; refine (LC.out _).mono ?_; rintro e w4 ⟨rfl, hG4⟩; have H4 := Lib.hid ((HB.out.keep (gr_drew (gr_refl wc none))).keep hG4); obtain ⟨v1, hv1⟩ := H4.out.row; have HV1 := Lib.hid hv1; have s4 : w4.cell? ⟨t, 1, none⟩ = some (.int .u64 va) ∧ w4.cell? ⟨t, 2, none⟩ = some (.int .u64 asi) ∧ w4.cell? ⟨t, 3, none⟩ = some (.int .u64 pt) ∧ w4.cell? ⟨t, 4, none⟩ = some (.int .i64 lv) ∧ w4.cell? ⟨t, 5, none⟩ = some (.bool gl) ∧ w.grownBy w4 none := ⟨H4.out.opr.cell 1, H4.out.opr.cell 2, H4.out.opr.cell 3, H4.out.opr.cell 4, H4.out.opr.cell 5, H4.out.gr⟩; clear hv1 hG4)
                | (go_at_call 24; refine (PU.out _ _ H4.out.gr.size HV1.out).mono ?_; rintro e w5 ⟨rfl, hT⟩; have H5 := Lib.hid (H4.out.one HV1.out (by decide) (by decide) hT); have s5 : w5.cell? ⟨t, 1, none⟩ = some (.int .u64 va) ∧ w5.cell? ⟨t, 2, none⟩ = some (.int .u64 asi) ∧ w5.cell? ⟨t, 3, none⟩ = some (.int .u64 pt) ∧ w5.cell? ⟨t, 4, none⟩ = some (.int .i64 lv) ∧ w5.cell? ⟨t, 5, none⟩ = some (.bool gl) ∧ w.grownBy w5 none := ⟨H5.out.opr.cell 1, H5.out.opr.cell 2, H5.out.opr.cell 3, H5.out.opr.cell 4, H5.out.opr.cell 5, H5.out.gr⟩; clear hT))
            rename_i hHeld5
            clear hHeld5 s4 s0 H4 HV1
            go_wp2_with fail
            go_region_held3 (fun w' => w'.cell? ⟨t, 1, none⟩ = some (.int .u64 va) ∧ w'.cell? ⟨t, 2, none⟩ = some (.int .u64 asi) ∧ w'.cell? ⟨t, 3, none⟩ = some (.int .u64 pt) ∧ w'.cell? ⟨t, 4, none⟩ = some (.int .i64 lv) ∧ w'.cell? ⟨t, 5, none⟩ = some (.bool gl) ∧ w.grownBy w' none)
              (first | assumption | (exact ⟨(H5.out.keep (gr_drew (gr_refl w5 none))).opr.cell 1, (H5.out.keep (gr_drew (gr_refl w5 none))).opr.cell 2, (H5.out.keep (gr_drew (gr_refl w5 none))).opr.cell 3, (H5.out.keep (gr_drew (gr_refl w5 none))).opr.cell 4, (H5.out.keep (gr_drew (gr_refl w5 none))).opr.cell 5, (H5.out.keep (gr_drew (gr_refl w5 none))).gr⟩))
              (first
                | (go_at_call 27; refine (LC.out _).mono ?_; rintro e w6 ⟨rfl, hG6⟩; have H6 := Lib.hid ((H5.out.keep (gr_drew (gr_refl w5 none))).keep hG6); obtain ⟨v2, hv2⟩ := H6.out.row2; have HV2 := Lib.hid hv2; have s6 : w6.cell? ⟨t, 1, none⟩ = some (.int .u64 va) ∧ w6.cell? ⟨t, 2, none⟩ = some (.int .u64 asi) ∧ w6.cell? ⟨t, 3, none⟩ = some (.int .u64 pt) ∧ w6.cell? ⟨t, 4, none⟩ = some (.int .i64 lv) ∧ w6.cell? ⟨t, 5, none⟩ = some (.bool gl) ∧ w.grownBy w6 none := ⟨H6.out.opr.cell 1, H6.out.opr.cell 2, H6.out.opr.cell 3, H6.out.opr.cell 4, H6.out.opr.cell 5, H6.out.gr⟩; clear hv2 hG6)
                | (go_at_call 28; refine (PR.out _ _ HV2.out).mono ?_; rintro e w7 ⟨rfl, hr7, hG7⟩; have H7 := Lib.hid (H6.out.two (by decide) hr7 hG7); have s7 : w7.cell? ⟨t, 1, none⟩ = some (.int .u64 va) ∧ w7.cell? ⟨t, 2, none⟩ = some (.int .u64 asi) ∧ w7.cell? ⟨t, 3, none⟩ = some (.int .u64 pt) ∧ w7.cell? ⟨t, 4, none⟩ = some (.int .i64 lv) ∧ w7.cell? ⟨t, 5, none⟩ = some (.bool gl) ∧ w.grownBy w7 none := ⟨H7.out.opr.cell 1, H7.out.opr.cell 2, H7.out.opr.cell 3, H7.out.opr.cell 4, H7.out.opr.cell 5, H7.out.gr⟩; clear hr7 hG7))
            rename_i hHeld7
            clear hHeld7
            go_wp2_with fail
            go_meet
            case rel => exact ⟨p, n, _, bs, rfl, H7.out⟩
          · have FL := Lib.hid (fun v W hW => Flush_c w.heap.size p most v n L al ev va asi hva has W hW)
            have FR := Lib.hid (fun v W hW => rFlush_c u most v n L al ev va asi hva has W hW)
            have k1 : wc.cell? ⟨t, 1, none⟩ = some (.int .u64 va) := HB.out.opr.cell 1
            have k2 : wc.cell? ⟨t, 2, none⟩ = some (.int .u64 asi) := HB.out.opr.cell 2
            have k6 : wc.cell? ⟨t, 6, none⟩ = some (.bool al) := HB.out.opr.cell 6
            have k7 : wc.cell? ⟨t, 7, none⟩ = some (.bool ev) := HB.out.opr.cell 7
            have lt := HB.out.opr.lt
            obtain ⟨v1, hv1⟩ := HB.out.row
            have HV1 := Lib.hid hv1
            clear hv1
            go_wp2_with fail
            refine (FL.out _ _ HV1.out).mono ?_
            rintro e w5 ⟨rfl, hT⟩
            have H5 := Lib.hid (HB.out.one HV1.out (by decide) (by decide) hT)
            clear hT HV1
            clear k1 k2 k6 k7 lt
            have k1 : w5.cell? ⟨t, 1, none⟩ = some (.int .u64 va) := H5.out.opr.cell 1
            have k2 : w5.cell? ⟨t, 2, none⟩ = some (.int .u64 asi) := H5.out.opr.cell 2
            have k6 : w5.cell? ⟨t, 6, none⟩ = some (.bool al) := H5.out.opr.cell 6
            have k7 : w5.cell? ⟨t, 7, none⟩ = some (.bool ev) := H5.out.opr.cell 7
            have lt := H5.out.opr.lt
            obtain ⟨v2, hv2⟩ := H5.out.row2
            have HV2 := Lib.hid hv2
            clear hv2
            go_wp2_with fail
            refine (FR.out _ _ HV2.out).mono ?_
            rintro e w6 ⟨rfl, hr, hG⟩
            have H6 := Lib.hid (H5.out.two (by decide) hr hG)
            clear hr hG HV2 H5
            clear k1 k2 k6 k7 lt
            go_wp2_with fail
            go_meet
            case rel => exact ⟨p, n, _, bs, rfl, H6.out⟩
          · obtain ⟨x1, hx1⟩ : ∃ x, T.toRV bs L (gC [c0, c1, c2, c3, c4, c5, c6, c7, c8, c9, c10, c11] 9) (gC [c0, c1, c2, c3, c4, c5, c6, c7, c8, c9, c10, c11] 0) pr hw va = x := ⟨_, rfl⟩
            obtain ⟨R, hR1⟩ : ∃ x, T.toFV bs L (gC [c0, c1, c2, c3, c4, c5, c6, c7, c8, c9, c10, c11] 9) (gC [c0, c1, c2, c3, c4, c5, c6, c7, c8, c9, c10, c11] 0) pr hw va = x := ⟨_, rfl⟩
            obtain ⟨L1, hL1⟩ : ∃ x, T.toLV bs most L (gC [c0, c1, c2, c3, c4, c5, c6, c7, c8, c9, c10, c11] 9) (gC [c0, c1, c2, c3, c4, c5, c6, c7, c8, c9, c10, c11] 0) pr hw va = x := ⟨_, rfl⟩
            obtain ⟨n1, hn1⟩ : ∃ x, T.toNV L n (gC [c0, c1, c2, c3, c4, c5, c6, c7, c8, c9, c10, c11] 9) (gC [c0, c1, c2, c3, c4, c5, c6, c7, c8, c9, c10, c11] 0) pr hw va = x := ⟨_, rfl⟩
            have T1 := Lib.hid (fun pm gm B p v W hB hm hh => to12 hcc hpr hhw hva hx1 hR1 hL1 hn1 pm gm B p v W hB hm hh)
            have T2 := Lib.hid (fun v W hm hh => rTo_c put_does pm' gm' bs [c0, c1, c2, c3, c4, c5, c6, c7, c8, c9, c10, c11] hcc pr hw va hpr hhw hva u most v n L W hm hh)
            rw [hx1, hR1, hL1, hn1] at T2
            rw [show vC [c0, c1, c2, c3, c4, c5, c6, c7, c8, c9, c10, c11] = .agg #[.int .u64 c0, .int .u64 c1, .int .u64 c2, .int .u64 c3, .int .u64 c4, .int .u64 c5, .int .u64 c6, .int .u64 c7, .int .u64 c8, .int .u64 c9, .int .u64 c10, .int .u64 c11] from rfl] at T1 T2
            unfold vF vFault at T2
            clear hx1 hR1 hL1 hn1
            have k1 : wc.cell? ⟨t, 1, none⟩ = some (.int .u64 va) := HB.out.opr.cell 1
            have k8 : wc.cell? ⟨t, 8, none⟩ = some (.int .u64 c0) := HB.out.opr.cell 8
            have k9 : wc.cell? ⟨t, 9, none⟩ = some (.int .u64 c1) := HB.out.opr.cell 9
            have k10 : wc.cell? ⟨t, 10, none⟩ = some (.int .u64 c2) := HB.out.opr.cell 10
            have k11 : wc.cell? ⟨t, 11, none⟩ = some (.int .u64 c3) := HB.out.opr.cell 11
            have k12 : wc.cell? ⟨t, 12, none⟩ = some (.int .u64 c4) := HB.out.opr.cell 12
            have k13 : wc.cell? ⟨t, 13, none⟩ = some (.int .u64 c5) := HB.out.opr.cell 13
            have k14 : wc.cell? ⟨t, 14, none⟩ = some (.int .u64 c6) := HB.out.opr.cell 14
            have k15 : wc.cell? ⟨t, 15, none⟩ = some (.int .u64 c7) := HB.out.opr.cell 15
            have k16 : wc.cell? ⟨t, 16, none⟩ = some (.int .u64 c8) := HB.out.opr.cell 16
            have k17 : wc.cell? ⟨t, 17, none⟩ = some (.int .u64 c9) := HB.out.opr.cell 17
            have k18 : wc.cell? ⟨t, 18, none⟩ = some (.int .u64 c10) := HB.out.opr.cell 18
            have k19 : wc.cell? ⟨t, 19, none⟩ = some (.int .u64 c11) := HB.out.opr.cell 19
            have k20 : wc.cell? ⟨t, 20, none⟩ = some (.int .i64 pr) := HB.out.opr.cell 20
            have k21 : wc.cell? ⟨t, 21, none⟩ = some (.int .i64 hw) := HB.out.opr.cell 21
            have lt := HB.out.opr.lt
            obtain ⟨v1, hv1⟩ := HB.out.row
            have HV1 := Lib.hid hv1
            clear hv1
            go_wp2_with fail
            refine (T1.out _ _ _ _ _ _ HB.out.gr.size HB.out.mem HV1.out).mono ?_
            rintro e w5 ⟨rfl, hT⟩
            have H5 := Lib.hid (HB.out.one HV1.out (by decide) (by decide) hT)
            clear hT HV1
            clear k1 k8 k9 k10 k11 k12 k13 k14 k15 k16 k17 k18 k19 k20 k21 lt
            have hA := gr_alloc (gr_refl w5 none) (.cells #[.bool R.isf, .int .i64 R.cause, .int .u64 R.val] 48)
            have H6 := Lib.hid (And.intro (H5.out.keep hA) (Row.fresh w5 48 [.bool R.isf, .int .i64 R.cause, .int .u64 R.val]))
            clear hA H5
            have k1 : (w5.alloc (.cells #[.bool R.isf, .int .i64 R.cause, .int .u64 R.val] 48)).cell? ⟨t, 1, none⟩ = some (.int .u64 va) := H6.out.1.opr.cell 1
            have k8 : (w5.alloc (.cells #[.bool R.isf, .int .i64 R.cause, .int .u64 R.val] 48)).cell? ⟨t, 8, none⟩ = some (.int .u64 c0) := H6.out.1.opr.cell 8
            have k9 : (w5.alloc (.cells #[.bool R.isf, .int .i64 R.cause, .int .u64 R.val] 48)).cell? ⟨t, 9, none⟩ = some (.int .u64 c1) := H6.out.1.opr.cell 9
            have k10 : (w5.alloc (.cells #[.bool R.isf, .int .i64 R.cause, .int .u64 R.val] 48)).cell? ⟨t, 10, none⟩ = some (.int .u64 c2) := H6.out.1.opr.cell 10
            have k11 : (w5.alloc (.cells #[.bool R.isf, .int .i64 R.cause, .int .u64 R.val] 48)).cell? ⟨t, 11, none⟩ = some (.int .u64 c3) := H6.out.1.opr.cell 11
            have k12 : (w5.alloc (.cells #[.bool R.isf, .int .i64 R.cause, .int .u64 R.val] 48)).cell? ⟨t, 12, none⟩ = some (.int .u64 c4) := H6.out.1.opr.cell 12
            have k13 : (w5.alloc (.cells #[.bool R.isf, .int .i64 R.cause, .int .u64 R.val] 48)).cell? ⟨t, 13, none⟩ = some (.int .u64 c5) := H6.out.1.opr.cell 13
            have k14 : (w5.alloc (.cells #[.bool R.isf, .int .i64 R.cause, .int .u64 R.val] 48)).cell? ⟨t, 14, none⟩ = some (.int .u64 c6) := H6.out.1.opr.cell 14
            have k15 : (w5.alloc (.cells #[.bool R.isf, .int .i64 R.cause, .int .u64 R.val] 48)).cell? ⟨t, 15, none⟩ = some (.int .u64 c7) := H6.out.1.opr.cell 15
            have k16 : (w5.alloc (.cells #[.bool R.isf, .int .i64 R.cause, .int .u64 R.val] 48)).cell? ⟨t, 16, none⟩ = some (.int .u64 c8) := H6.out.1.opr.cell 16
            have k17 : (w5.alloc (.cells #[.bool R.isf, .int .i64 R.cause, .int .u64 R.val] 48)).cell? ⟨t, 17, none⟩ = some (.int .u64 c9) := H6.out.1.opr.cell 17
            have k18 : (w5.alloc (.cells #[.bool R.isf, .int .i64 R.cause, .int .u64 R.val] 48)).cell? ⟨t, 18, none⟩ = some (.int .u64 c10) := H6.out.1.opr.cell 18
            have k19 : (w5.alloc (.cells #[.bool R.isf, .int .i64 R.cause, .int .u64 R.val] 48)).cell? ⟨t, 19, none⟩ = some (.int .u64 c11) := H6.out.1.opr.cell 19
            have k20 : (w5.alloc (.cells #[.bool R.isf, .int .i64 R.cause, .int .u64 R.val] 48)).cell? ⟨t, 20, none⟩ = some (.int .i64 pr) := H6.out.1.opr.cell 20
            have k21 : (w5.alloc (.cells #[.bool R.isf, .int .i64 R.cause, .int .u64 R.val] 48)).cell? ⟨t, 21, none⟩ = some (.int .i64 hw) := H6.out.1.opr.cell 21
            have lt := H6.out.1.opr.lt
            obtain ⟨v2, hv2⟩ := H6.out.1.row2
            have HV2 := Lib.hid hv2
            clear hv2
            go_wp2_with fail
            refine (T2.out _ _ H6.out.1.mem2 HV2.out).mono ?_
            rintro e w7 ⟨rfl, hr, hG⟩
            have hB := H6.out.1.two (by decide) hr hG
            have r5 := H6.out.2.grown hG (some_ne (H6.out.2.apart HV2.out.ptr (by decide)))
            have hA := gr_alloc (gr_refl w7 none) (.cells #[.bool R.isf, .int .i64 R.cause, .int .u64 R.val] 48)
            have H8 := Lib.hid (hB.keep hA)
            have r6 := r5.grown hA (by simp)
            have r7 := Row.fresh w7 48 [.bool R.isf, .int .i64 R.cause, .int .u64 R.val]
            obtain ⟨x0, x1', x2⟩ := cells3 r6
            obtain ⟨y0, y1, y2⟩ := cells3 r7
            have nf := fun W => neq_Fs R.isf R.cause R.val W
            clear hr hG hB r5 r6 r7 hA HV2 H6
            clear k1 k8 k9 k10 k11 k12 k13 k14 k15 k16 k17 k18 k19 k20 k21 lt
            go_wp2_with fail
            go_meet
            case rel => exact ⟨p, n1, L1, bs, rfl, H8.out⟩
          · obtain ⟨x1, hx1⟩ : ∃ x, T.toRV bs L (gC [c0, c1, c2, c3, c4, c5, c6, c7, c8, c9, c10, c11] 9) (gC [c0, c1, c2, c3, c4, c5, c6, c7, c8, c9, c10, c11] 0) pr hw va = x := ⟨_, rfl⟩
            obtain ⟨R, hR1⟩ : ∃ x, T.toFV bs L (gC [c0, c1, c2, c3, c4, c5, c6, c7, c8, c9, c10, c11] 9) (gC [c0, c1, c2, c3, c4, c5, c6, c7, c8, c9, c10, c11] 0) pr hw va = x := ⟨_, rfl⟩
            obtain ⟨L1, hL1⟩ : ∃ x, T.toLV bs most L (gC [c0, c1, c2, c3, c4, c5, c6, c7, c8, c9, c10, c11] 9) (gC [c0, c1, c2, c3, c4, c5, c6, c7, c8, c9, c10, c11] 0) pr hw va = x := ⟨_, rfl⟩
            obtain ⟨n1, hn1⟩ : ∃ x, T.toNV L n (gC [c0, c1, c2, c3, c4, c5, c6, c7, c8, c9, c10, c11] 9) (gC [c0, c1, c2, c3, c4, c5, c6, c7, c8, c9, c10, c11] 0) pr hw va = x := ⟨_, rfl⟩
            have T1 := Lib.hid (fun pm gm B p v W hB hm hh => to12 hcc hpr hhw hva hx1 hR1 hL1 hn1 pm gm B p v W hB hm hh)
            have T2 := Lib.hid (fun v W hm hh => rTo_c put_does pm' gm' bs [c0, c1, c2, c3, c4, c5, c6, c7, c8, c9, c10, c11] hcc pr hw va hpr hhw hva u most v n L W hm hh)
            rw [hx1, hR1, hL1, hn1] at T2
            rw [show vC [c0, c1, c2, c3, c4, c5, c6, c7, c8, c9, c10, c11] = .agg #[.int .u64 c0, .int .u64 c1, .int .u64 c2, .int .u64 c3, .int .u64 c4, .int .u64 c5, .int .u64 c6, .int .u64 c7, .int .u64 c8, .int .u64 c9, .int .u64 c10, .int .u64 c11] from rfl] at T1 T2
            unfold vF vFault at T2
            clear hx1 hR1 hL1 hn1
            have k1 : wc.cell? ⟨t, 1, none⟩ = some (.int .u64 va) := HB.out.opr.cell 1
            have k8 : wc.cell? ⟨t, 8, none⟩ = some (.int .u64 c0) := HB.out.opr.cell 8
            have k9 : wc.cell? ⟨t, 9, none⟩ = some (.int .u64 c1) := HB.out.opr.cell 9
            have k10 : wc.cell? ⟨t, 10, none⟩ = some (.int .u64 c2) := HB.out.opr.cell 10
            have k11 : wc.cell? ⟨t, 11, none⟩ = some (.int .u64 c3) := HB.out.opr.cell 11
            have k12 : wc.cell? ⟨t, 12, none⟩ = some (.int .u64 c4) := HB.out.opr.cell 12
            have k13 : wc.cell? ⟨t, 13, none⟩ = some (.int .u64 c5) := HB.out.opr.cell 13
            have k14 : wc.cell? ⟨t, 14, none⟩ = some (.int .u64 c6) := HB.out.opr.cell 14
            have k15 : wc.cell? ⟨t, 15, none⟩ = some (.int .u64 c7) := HB.out.opr.cell 15
            have k16 : wc.cell? ⟨t, 16, none⟩ = some (.int .u64 c8) := HB.out.opr.cell 16
            have k17 : wc.cell? ⟨t, 17, none⟩ = some (.int .u64 c9) := HB.out.opr.cell 17
            have k18 : wc.cell? ⟨t, 18, none⟩ = some (.int .u64 c10) := HB.out.opr.cell 18
            have k19 : wc.cell? ⟨t, 19, none⟩ = some (.int .u64 c11) := HB.out.opr.cell 19
            have k20 : wc.cell? ⟨t, 20, none⟩ = some (.int .i64 pr) := HB.out.opr.cell 20
            have k21 : wc.cell? ⟨t, 21, none⟩ = some (.int .i64 hw) := HB.out.opr.cell 21
            have lt := HB.out.opr.lt
            obtain ⟨v1, hv1⟩ := HB.out.row
            have HV1 := Lib.hid hv1
            clear hv1
            go_wp2_with fail
            refine (T1.out _ _ _ _ _ _ HB.out.gr.size HB.out.mem HV1.out).mono ?_
            rintro e w5 ⟨rfl, hT⟩
            have H5 := Lib.hid (HB.out.one HV1.out (by decide) (by decide) hT)
            clear hT HV1
            clear k1 k8 k9 k10 k11 k12 k13 k14 k15 k16 k17 k18 k19 k20 k21 lt
            have hA := gr_alloc (gr_refl w5 none) (.cells #[.bool R.isf, .int .i64 R.cause, .int .u64 R.val] 48)
            have H6 := Lib.hid (And.intro (H5.out.keep hA) (Row.fresh w5 48 [.bool R.isf, .int .i64 R.cause, .int .u64 R.val]))
            clear hA H5
            have k1 : (w5.alloc (.cells #[.bool R.isf, .int .i64 R.cause, .int .u64 R.val] 48)).cell? ⟨t, 1, none⟩ = some (.int .u64 va) := H6.out.1.opr.cell 1
            have k8 : (w5.alloc (.cells #[.bool R.isf, .int .i64 R.cause, .int .u64 R.val] 48)).cell? ⟨t, 8, none⟩ = some (.int .u64 c0) := H6.out.1.opr.cell 8
            have k9 : (w5.alloc (.cells #[.bool R.isf, .int .i64 R.cause, .int .u64 R.val] 48)).cell? ⟨t, 9, none⟩ = some (.int .u64 c1) := H6.out.1.opr.cell 9
            have k10 : (w5.alloc (.cells #[.bool R.isf, .int .i64 R.cause, .int .u64 R.val] 48)).cell? ⟨t, 10, none⟩ = some (.int .u64 c2) := H6.out.1.opr.cell 10
            have k11 : (w5.alloc (.cells #[.bool R.isf, .int .i64 R.cause, .int .u64 R.val] 48)).cell? ⟨t, 11, none⟩ = some (.int .u64 c3) := H6.out.1.opr.cell 11
            have k12 : (w5.alloc (.cells #[.bool R.isf, .int .i64 R.cause, .int .u64 R.val] 48)).cell? ⟨t, 12, none⟩ = some (.int .u64 c4) := H6.out.1.opr.cell 12
            have k13 : (w5.alloc (.cells #[.bool R.isf, .int .i64 R.cause, .int .u64 R.val] 48)).cell? ⟨t, 13, none⟩ = some (.int .u64 c5) := H6.out.1.opr.cell 13
            have k14 : (w5.alloc (.cells #[.bool R.isf, .int .i64 R.cause, .int .u64 R.val] 48)).cell? ⟨t, 14, none⟩ = some (.int .u64 c6) := H6.out.1.opr.cell 14
            have k15 : (w5.alloc (.cells #[.bool R.isf, .int .i64 R.cause, .int .u64 R.val] 48)).cell? ⟨t, 15, none⟩ = some (.int .u64 c7) := H6.out.1.opr.cell 15
            have k16 : (w5.alloc (.cells #[.bool R.isf, .int .i64 R.cause, .int .u64 R.val] 48)).cell? ⟨t, 16, none⟩ = some (.int .u64 c8) := H6.out.1.opr.cell 16
            have k17 : (w5.alloc (.cells #[.bool R.isf, .int .i64 R.cause, .int .u64 R.val] 48)).cell? ⟨t, 17, none⟩ = some (.int .u64 c9) := H6.out.1.opr.cell 17
            have k18 : (w5.alloc (.cells #[.bool R.isf, .int .i64 R.cause, .int .u64 R.val] 48)).cell? ⟨t, 18, none⟩ = some (.int .u64 c10) := H6.out.1.opr.cell 18
            have k19 : (w5.alloc (.cells #[.bool R.isf, .int .i64 R.cause, .int .u64 R.val] 48)).cell? ⟨t, 19, none⟩ = some (.int .u64 c11) := H6.out.1.opr.cell 19
            have k20 : (w5.alloc (.cells #[.bool R.isf, .int .i64 R.cause, .int .u64 R.val] 48)).cell? ⟨t, 20, none⟩ = some (.int .i64 pr) := H6.out.1.opr.cell 20
            have k21 : (w5.alloc (.cells #[.bool R.isf, .int .i64 R.cause, .int .u64 R.val] 48)).cell? ⟨t, 21, none⟩ = some (.int .i64 hw) := H6.out.1.opr.cell 21
            have lt := H6.out.1.opr.lt
            obtain ⟨v2, hv2⟩ := H6.out.1.row2
            have HV2 := Lib.hid hv2
            clear hv2
            go_wp2_with fail
            refine (T2.out _ _ H6.out.1.mem2 HV2.out).mono ?_
            rintro e w7 ⟨rfl, hr, hG⟩
            have hB := H6.out.1.two (by decide) hr hG
            have r5 := H6.out.2.grown hG (some_ne (H6.out.2.apart HV2.out.ptr (by decide)))
            have hA := gr_alloc (gr_refl w7 none) (.cells #[.bool R.isf, .int .i64 R.cause, .int .u64 R.val] 48)
            have H8 := Lib.hid (hB.keep hA)
            have r6 := r5.grown hA (by simp)
            have r7 := Row.fresh w7 48 [.bool R.isf, .int .i64 R.cause, .int .u64 R.val]
            obtain ⟨x0, x1', x2⟩ := cells3 r6
            obtain ⟨y0, y1, y2⟩ := cells3 r7
            have nf := fun W => neq_Fs R.isf R.cause R.val W
            clear hr hG hB r5 r6 r7 hA HV2 H6
            clear k1 k8 k9 k10 k11 k12 k13 k14 k15 k16 k17 k18 k19 k20 k21 lt
            go_wp2_with fail
            go_meet
            case rel => exact ⟨p, n1, L1, bs, rfl, H8.out⟩
          · obtain ⟨x1, hx1⟩ : ∃ x, T.toRV bs L (gC [c0, c1, c2, c3, c4, c5, c6, c7, c8, c9, c10, c11] 9) (gC [c0, c1, c2, c3, c4, c5, c6, c7, c8, c9, c10, c11] 0) pr hw va = x := ⟨_, rfl⟩
            obtain ⟨R, hR1⟩ : ∃ x, T.toFV bs L (gC [c0, c1, c2, c3, c4, c5, c6, c7, c8, c9, c10, c11] 9) (gC [c0, c1, c2, c3, c4, c5, c6, c7, c8, c9, c10, c11] 0) pr hw va = x := ⟨_, rfl⟩
            obtain ⟨L1, hL1⟩ : ∃ x, T.toLV bs most L (gC [c0, c1, c2, c3, c4, c5, c6, c7, c8, c9, c10, c11] 9) (gC [c0, c1, c2, c3, c4, c5, c6, c7, c8, c9, c10, c11] 0) pr hw va = x := ⟨_, rfl⟩
            obtain ⟨n1, hn1⟩ : ∃ x, T.toNV L n (gC [c0, c1, c2, c3, c4, c5, c6, c7, c8, c9, c10, c11] 9) (gC [c0, c1, c2, c3, c4, c5, c6, c7, c8, c9, c10, c11] 0) pr hw va = x := ⟨_, rfl⟩
            have T1 := Lib.hid (fun pm gm B p v W hB hm hh => to12 hcc hpr hhw hva hx1 hR1 hL1 hn1 pm gm B p v W hB hm hh)
            have T2 := Lib.hid (fun v W hm hh => rTo_c put_does pm' gm' bs [c0, c1, c2, c3, c4, c5, c6, c7, c8, c9, c10, c11] hcc pr hw va hpr hhw hva u most v n L W hm hh)
            rw [hx1, hR1, hL1, hn1] at T2
            rw [show vC [c0, c1, c2, c3, c4, c5, c6, c7, c8, c9, c10, c11] = .agg #[.int .u64 c0, .int .u64 c1, .int .u64 c2, .int .u64 c3, .int .u64 c4, .int .u64 c5, .int .u64 c6, .int .u64 c7, .int .u64 c8, .int .u64 c9, .int .u64 c10, .int .u64 c11] from rfl] at T1 T2
            unfold vF vFault at T2
            clear hx1 hR1 hL1 hn1
            have k1 : wc.cell? ⟨t, 1, none⟩ = some (.int .u64 va) := HB.out.opr.cell 1
            have k8 : wc.cell? ⟨t, 8, none⟩ = some (.int .u64 c0) := HB.out.opr.cell 8
            have k9 : wc.cell? ⟨t, 9, none⟩ = some (.int .u64 c1) := HB.out.opr.cell 9
            have k10 : wc.cell? ⟨t, 10, none⟩ = some (.int .u64 c2) := HB.out.opr.cell 10
            have k11 : wc.cell? ⟨t, 11, none⟩ = some (.int .u64 c3) := HB.out.opr.cell 11
            have k12 : wc.cell? ⟨t, 12, none⟩ = some (.int .u64 c4) := HB.out.opr.cell 12
            have k13 : wc.cell? ⟨t, 13, none⟩ = some (.int .u64 c5) := HB.out.opr.cell 13
            have k14 : wc.cell? ⟨t, 14, none⟩ = some (.int .u64 c6) := HB.out.opr.cell 14
            have k15 : wc.cell? ⟨t, 15, none⟩ = some (.int .u64 c7) := HB.out.opr.cell 15
            have k16 : wc.cell? ⟨t, 16, none⟩ = some (.int .u64 c8) := HB.out.opr.cell 16
            have k17 : wc.cell? ⟨t, 17, none⟩ = some (.int .u64 c9) := HB.out.opr.cell 17
            have k18 : wc.cell? ⟨t, 18, none⟩ = some (.int .u64 c10) := HB.out.opr.cell 18
            have k19 : wc.cell? ⟨t, 19, none⟩ = some (.int .u64 c11) := HB.out.opr.cell 19
            have k20 : wc.cell? ⟨t, 20, none⟩ = some (.int .i64 pr) := HB.out.opr.cell 20
            have k21 : wc.cell? ⟨t, 21, none⟩ = some (.int .i64 hw) := HB.out.opr.cell 21
            have lt := HB.out.opr.lt
            obtain ⟨v1, hv1⟩ := HB.out.row
            have HV1 := Lib.hid hv1
            clear hv1
            go_wp2_with fail
            refine (T1.out _ _ _ _ _ _ HB.out.gr.size HB.out.mem HV1.out).mono ?_
            rintro e w5 ⟨rfl, hT⟩
            have H5 := Lib.hid (HB.out.one HV1.out (by decide) (by decide) hT)
            clear hT HV1
            clear k1 k8 k9 k10 k11 k12 k13 k14 k15 k16 k17 k18 k19 k20 k21 lt
            have hA := gr_alloc (gr_refl w5 none) (.cells #[.bool R.isf, .int .i64 R.cause, .int .u64 R.val] 48)
            have H6 := Lib.hid (And.intro (H5.out.keep hA) (Row.fresh w5 48 [.bool R.isf, .int .i64 R.cause, .int .u64 R.val]))
            clear hA H5
            have k1 : (w5.alloc (.cells #[.bool R.isf, .int .i64 R.cause, .int .u64 R.val] 48)).cell? ⟨t, 1, none⟩ = some (.int .u64 va) := H6.out.1.opr.cell 1
            have k8 : (w5.alloc (.cells #[.bool R.isf, .int .i64 R.cause, .int .u64 R.val] 48)).cell? ⟨t, 8, none⟩ = some (.int .u64 c0) := H6.out.1.opr.cell 8
            have k9 : (w5.alloc (.cells #[.bool R.isf, .int .i64 R.cause, .int .u64 R.val] 48)).cell? ⟨t, 9, none⟩ = some (.int .u64 c1) := H6.out.1.opr.cell 9
            have k10 : (w5.alloc (.cells #[.bool R.isf, .int .i64 R.cause, .int .u64 R.val] 48)).cell? ⟨t, 10, none⟩ = some (.int .u64 c2) := H6.out.1.opr.cell 10
            have k11 : (w5.alloc (.cells #[.bool R.isf, .int .i64 R.cause, .int .u64 R.val] 48)).cell? ⟨t, 11, none⟩ = some (.int .u64 c3) := H6.out.1.opr.cell 11
            have k12 : (w5.alloc (.cells #[.bool R.isf, .int .i64 R.cause, .int .u64 R.val] 48)).cell? ⟨t, 12, none⟩ = some (.int .u64 c4) := H6.out.1.opr.cell 12
            have k13 : (w5.alloc (.cells #[.bool R.isf, .int .i64 R.cause, .int .u64 R.val] 48)).cell? ⟨t, 13, none⟩ = some (.int .u64 c5) := H6.out.1.opr.cell 13
            have k14 : (w5.alloc (.cells #[.bool R.isf, .int .i64 R.cause, .int .u64 R.val] 48)).cell? ⟨t, 14, none⟩ = some (.int .u64 c6) := H6.out.1.opr.cell 14
            have k15 : (w5.alloc (.cells #[.bool R.isf, .int .i64 R.cause, .int .u64 R.val] 48)).cell? ⟨t, 15, none⟩ = some (.int .u64 c7) := H6.out.1.opr.cell 15
            have k16 : (w5.alloc (.cells #[.bool R.isf, .int .i64 R.cause, .int .u64 R.val] 48)).cell? ⟨t, 16, none⟩ = some (.int .u64 c8) := H6.out.1.opr.cell 16
            have k17 : (w5.alloc (.cells #[.bool R.isf, .int .i64 R.cause, .int .u64 R.val] 48)).cell? ⟨t, 17, none⟩ = some (.int .u64 c9) := H6.out.1.opr.cell 17
            have k18 : (w5.alloc (.cells #[.bool R.isf, .int .i64 R.cause, .int .u64 R.val] 48)).cell? ⟨t, 18, none⟩ = some (.int .u64 c10) := H6.out.1.opr.cell 18
            have k19 : (w5.alloc (.cells #[.bool R.isf, .int .i64 R.cause, .int .u64 R.val] 48)).cell? ⟨t, 19, none⟩ = some (.int .u64 c11) := H6.out.1.opr.cell 19
            have k20 : (w5.alloc (.cells #[.bool R.isf, .int .i64 R.cause, .int .u64 R.val] 48)).cell? ⟨t, 20, none⟩ = some (.int .i64 pr) := H6.out.1.opr.cell 20
            have k21 : (w5.alloc (.cells #[.bool R.isf, .int .i64 R.cause, .int .u64 R.val] 48)).cell? ⟨t, 21, none⟩ = some (.int .i64 hw) := H6.out.1.opr.cell 21
            have lt := H6.out.1.opr.lt
            obtain ⟨v2, hv2⟩ := H6.out.1.row2
            have HV2 := Lib.hid hv2
            clear hv2
            go_wp2_with fail
            refine (T2.out _ _ H6.out.1.mem2 HV2.out).mono ?_
            rintro e w7 ⟨rfl, hr, hG⟩
            have hB := H6.out.1.two (by decide) hr hG
            have r5 := H6.out.2.grown hG (some_ne (H6.out.2.apart HV2.out.ptr (by decide)))
            have hA := gr_alloc (gr_refl w7 none) (.cells #[.bool R.isf, .int .i64 R.cause, .int .u64 R.val] 48)
            have H8 := Lib.hid (hB.keep hA)
            have r6 := r5.grown hA (by simp)
            have r7 := Row.fresh w7 48 [.bool R.isf, .int .i64 R.cause, .int .u64 R.val]
            obtain ⟨x0, x1', x2⟩ := cells3 r6
            obtain ⟨y0, y1, y2⟩ := cells3 r7
            have nf := fun W => neq_Fs R.isf R.cause R.val W
            clear hr hG hB r5 r6 r7 hA HV2 H6
            clear k1 k8 k9 k10 k11 k12 k13 k14 k15 k16 k17 k18 k19 k20 k21 lt
            go_wp2_with fail
            go_meet
            case rel => exact ⟨p, n1, L1, bs, rfl, H8.out⟩
          · have hx := and_8 ata hata
            have hsb : 2147483648 ≤ spotV ata ∧ spotV ata ≤ 2147549183 := by unfold spotV; omega
            have hspot : 2147483648 + ata % 65536 / 8 * 8 = spotV ata := rfl
            have P1 := Lib.hid (fun W hm => Put_c pm gm bs (spotV ata) 8 xx W hm (by omega) (by omega) hxx)
            have P2 := Lib.hid (fun W hm => rPut_c pm' gm' bs (spotV ata) 8 xx W hm (by omega) (by omega) hxx)
            generalize spotV ata = sp at *
            generalize putV bs sp 8 xx = bs9 at *
            have k22 : wc.cell? ⟨t, 22, none⟩ = some (.int .u32 ata) := HB.out.opr.cell 22
            have k23 : wc.cell? ⟨t, 23, none⟩ = some (.int .u64 xx) := HB.out.opr.cell 23
            have lt := HB.out.opr.lt
            go_wp2_with fail
            refine (P1.out _ HB.out.mem).mono ?_
            rintro e w5 ⟨rfl, hm, hG⟩
            have H5 := Lib.hid (HB.out.put1 (by decide) hm hG)
            clear hm hG
            clear k22 k23 lt
            have k22 : w5.cell? ⟨t, 22, none⟩ = some (.int .u32 ata) := H5.out.opr.cell 22
            have k23 : w5.cell? ⟨t, 23, none⟩ = some (.int .u64 xx) := H5.out.opr.cell 23
            have lt := H5.out.opr.lt
            go_wp2_with fail
            refine (P2.out _ H5.out.mem2).mono ?_
            rintro e w6 ⟨rfl, hm, hG⟩
            have H6 := Lib.hid (H5.out.put2 (by decide) hm hG)
            clear hm hG H5
            clear k22 k23 lt
            go_wp2_with fail
            go_meet
            case rel => exact ⟨p, n, L, bs9, rfl, H6.out⟩
          · obtain ⟨v1, hv1⟩ := HB.out.row
            have HV1 := Lib.hid hv1
            clear hv1
            go_wp2_with fail
            refine (TClone_c _ _ _ _ _ _ _ HV1.out).mono ?_
            rintro e w5 ⟨q, v', rfl, hC, hG⟩
            have H5 := Lib.hid (HB.out.clone hC hG)
            obtain ⟨v5, hv5, ho5⟩ := H5.out.old
            have HV5 := Lib.hid (And.intro hv5 ho5)
            clear hC hG HV1 hv5 ho5
            go_wp2_with fail
            refine (Flush_c _ p most v5 n L true true 0 0 (by decide) (by decide) _ HV5.out.1).mono ?_
            rintro e w6 ⟨rfl, hT⟩
            have H6 := Lib.hid (H5.out.turn HV5.out.1 HV5.out.2 (by decide) (by decide) hT)
            obtain ⟨v6, hv6, ho6⟩ := H6.out.old
            have HV6 := Lib.hid (And.intro hv6 ho6)
            clear hT H5 HV5 hv6 ho6
            go_wp2_with fail
            refine (TPut_c _ p most v6 n _ (⟨0, 0, 0, 0, true⟩ : T.Lf) ⟨by decide, by decide, by decide, by decide, by decide⟩ _ (by have := H6.out.all.gr.size; exact this) HV6.out.1).mono ?_
            rintro e w7 ⟨rfl, hT⟩
            have H7 := Lib.hid (H6.out.turn HV6.out.1 HV6.out.2 (by decide) (by decide) hT)
            clear hT H6 HV6
            go_wp2_with fail
            go_meet
            case rel => exact ⟨q, n, L, bs, rfl, H7.out.all⟩
        case rest =>
          obtain ⟨p, n, L, bs, rfl, hB⟩ := hcut
          have hBM := hB
          clear HL0 hand
          have HB := Lib.hid hB
          clear hB hBM
          obtain ⟨v1, hv1⟩ := HB.out.row
          obtain ⟨v2, hv2⟩ := HB.out.row2
          obtain ⟨A, cap, rfl, hcap⟩ := hv2.sl.len
          have c1 := hv2.c1
          have c2 := hv2.c2
          have lu := hv2.ptr.lt
          have HV := Lib.hid hv1
          have LN := Lib.hid (fun N => Len_c _ _ _ _ _ _ (wc.drewN N) (T.Held.drewN hv1 N))
          have MS := Lib.hid (fun N => Misses_c _ _ _ _ _ _ (wc.drewN N) (T.Held.drewN hv1 N))
          have hl8 : L.length ≤ 8 := by have := hv1.le; omega
          clear hv1 hv2 hcap
          go_wp2_with fail
          go_quiet (first | (go_at_call 20; exact quietly (LN.out _) ⟨_, rfl⟩) | (go_at_call 32; exact quietly (MS.out _) ⟨_, rfl⟩))
          go_wp2_with fail
          go_roundw
          case rel => exact ⟨j + 1, p, n, L, bs, _, _, _, rfl, by go_num, by omega, by omega, HB.out.keep (gr_drewN (gr_refl _ none) _)⟩
          case measure => simp [intOf]; omega
      · obtain rfl : j = 40 := by omega
        have HBE := Lib.hid (gr_below hL.gr)
        clear hL HL
        go_wp2_with fail
        go_ret
        exact ⟨rfl, HBE.out⟩
    · obtain rfl : j = m2 := by omega
      have HBE := Lib.hid (gr_below hL.gr)
      clear hL HL
      go_wp2_with fail
      go_ret
      exact ⟨rfl, HBE.out⟩

theorem own : ownKnob Try.prog.godebug = none := by kernel_rfl
theorem laidOut : laidOutB Try.prog = true := by kernel_rfl

set_option maxRecDepth 100000 in
theorem lifted (os : Os) (started : os.Started) (H : Type) (enc : TypeId × Value → H) :
    ReturnsInHanded {} Try.checked os 7 .any (Rows.tlbPlaysSpec.pre6 enc Try.prog Try.f7 Rows.tlbPlaysRow.domain false) (Rows.tlbPlaysSpec.post enc Try.prog Try.f7 false true false false) := by
  refine returnsInHanded_of_change (C := Try.checked) own started (by kernel_rfl) Try.func7
    (ChangeSpec.witness6 (enc := enc) (C := Try.checked) false ⟨#[], #[.int .i64 0, .agg #[.int .u8 0, .slice none 0 0], .slice none 0 0], []⟩ 8 (by kernel_rfl) (by kernel_rfl) (by kernel_rfl) (by kernel_rfl)) ?_
  intro W base args ds gs before hval0 hW hcnd _
  have hval : ∀ (j : Nat) t v, Try.f7.params[j]? = some t → args[j]? = some v → Value.okWide Try.prog W .any base t v := hval0
  have hW' := hW
  obtain ⟨p, q, hA0, hV, rfl, hfz, hnd⟩ := hW
  have hA : DataW.TrodAll enc Try.prog W 0 (fun _ => true) true Try.f7.params.toList args.toList ds p := hA0
  rw [Try.params7] at hA hval
  obtain ⟨v0, vs0, d0, ds0, p0, q0, hargs, rfl, rfl, h0, r0⟩ := trodAll_cons hA
  obtain ⟨v1, vs1, d1, ds1, p1, q1, rfl, rfl, rfl, h1, r1⟩ := trodAll_cons r0
  obtain ⟨v2, vs2, d2, ds2, p2, q2, rfl, rfl, rfl, h2, r2⟩ := trodAll_cons r1
  obtain ⟨rfl, rfl, rfl⟩ := trodAll_nil r2
  obtain rfl : args = #[v0, v1, v2] := by cases args; simp_all
  obtain ⟨rfl, rfl⟩ := trodVars_none hV
  clear hA0 hval0 hA
  have k0 := h0
  have lt0 : ∀ x ∈ p0, x.block < W.heap.size := by obtain ⟨m, hm⟩ := k0; exact DataW.trod_lt m _ _ _ hm
  obtain ⟨a0, rfl, rfl, rfl, w0⟩ := open_int Try.underlying3 (hval 0 3 v0 rfl rfl) h0
  have k1 := h1
  have lt1 : ∀ x ∈ p1, x.block < W.heap.size := by obtain ⟨m, hm⟩ := k1; exact DataW.trod_lt m _ _ _ hm
  obtain ⟨xs1, rfl, l1, m1, f1⟩ := Op.open_struct Try.underlying36 (hval 1 36 v1 rfl rfl) h1
  rw [show Try.prog.cellsOf 36 = 2 from by kernel_rfl] at l1
  obtain _ | ⟨c1_0, xs1⟩ := xs1
  · simp at l1
  obtain _ | ⟨c1_1, xs1⟩ := xs1
  · simp at l1
  obtain _ | ⟨_, _⟩ := xs1
  rotate_left
  · simp at l1
  clear h1
  obtain ⟨zf1_0, gf1_0⟩ := f1 0 _ rfl
  replace gf1_0 : DataW.trod enc Try.prog W 0 (fun _ => true) true m1 5 [c1_0] = some zf1_0 := gf1_0
  obtain ⟨a1_0, e1_0, _, w1_0⟩ := DataW.trod_int Try.underlying5 gf1_0
  simp at e1_0; subst e1_0
  obtain ⟨zf1_1, gf1_1⟩ := f1 1 _ rfl
  replace gf1_1 : DataW.trod enc Try.prog W 0 (fun _ => true) true m1 34 [c1_1] = some zf1_1 := gf1_1
  obtain ⟨A1_1, n1_1, k1_1, e1_1, mc1_1, cc1_1, raw1_1⟩ := Op.read_items Try.underlying34 Try.underlying40 (by kernel_rfl) (by kernel_rfl) (by decide) gf1_1
  subst e1_1
  have el1_1 : ∀ i, i < n1_1 → ∃ ad, A1_1 = some ad ∧ ad.block < W.heap.size ∧ ∃ (x0 : Int) (x1 : Int), (W.cell? (ad.add (i * 2 + 0)) = some (.int .u32 x0) ∧ (Lit.int .u32 x0).wf = true) ∧ (W.cell? (ad.add (i * 2 + 1)) = some (.int .u64 x1) ∧ (Lit.int .u64 x1).wf = true) := by
    intro i hi
    obtain ⟨ad, hA, hb, n, hf⟩ := raw1_1 i hi
    obtain ⟨u0, yy0, hu0, ht0⟩ := hf 0 _ rfl
    obtain ⟨x0, ee0, _, ww0⟩ := DataW.trod_int Try.underlying38 ht0; simp only [List.cons.injEq, and_true] at ee0; subst ee0
    obtain ⟨u1, yy1, hu1, ht1⟩ := hf 1 _ rfl
    obtain ⟨x1, ee1, _, ww1⟩ := DataW.trod_int Try.underlying22 ht1; simp only [List.cons.injEq, and_true] at ee1; subst ee1
    exact ⟨ad, hA, hb, x0, x1, ⟨hu0, ww0⟩, ⟨hu1, ww1⟩⟩
  have k2 := h2
  have lt2 : ∀ x ∈ p2, x.block < W.heap.size := by obtain ⟨m, hm⟩ := k2; exact DataW.trod_lt m _ _ _ hm
  obtain ⟨A2, m2, c2, rfl, mc2, cc2, raw2⟩ := Op.open_rows (K := 24) Try.underlying37 (by kernel_rfl) (by decide) (hval 2 37 v2 rfl rfl) h2
  have el2 : ∀ i, i < m2 → ∃ ad, A2 = some ad ∧ ad.block < W.heap.size ∧ ∃ (x0 : Int) (x1 : Int) (x2 : Int) (x3 : Int) (x4 : Int) (x5 : Bool) (x6 : Bool) (x7 : Bool) (x8 : Int) (x9 : Int) (x10 : Int) (x11 : Int) (x12 : Int) (x13 : Int) (x14 : Int) (x15 : Int) (x16 : Int) (x17 : Int) (x18 : Int) (x19 : Int) (x20 : Int) (x21 : Int) (x22 : Int) (x23 : Int), (W.cell? (ad.add (i * 24 + 0)) = some (.int .u8 x0) ∧ (Lit.int .u8 x0).wf = true) ∧ (W.cell? (ad.add (i * 24 + 1)) = some (.int .u64 x1) ∧ (Lit.int .u64 x1).wf = true) ∧ (W.cell? (ad.add (i * 24 + 2)) = some (.int .u64 x2) ∧ (Lit.int .u64 x2).wf = true) ∧ (W.cell? (ad.add (i * 24 + 3)) = some (.int .u64 x3) ∧ (Lit.int .u64 x3).wf = true) ∧ (W.cell? (ad.add (i * 24 + 4)) = some (.int .i64 x4) ∧ (Lit.int .i64 x4).wf = true) ∧ (W.cell? (ad.add (i * 24 + 5)) = some (.bool x5)) ∧ (W.cell? (ad.add (i * 24 + 6)) = some (.bool x6)) ∧ (W.cell? (ad.add (i * 24 + 7)) = some (.bool x7)) ∧ (W.cell? (ad.add (i * 24 + 8)) = some (.int .u64 x8) ∧ (Lit.int .u64 x8).wf = true) ∧ (W.cell? (ad.add (i * 24 + 9)) = some (.int .u64 x9) ∧ (Lit.int .u64 x9).wf = true) ∧ (W.cell? (ad.add (i * 24 + 10)) = some (.int .u64 x10) ∧ (Lit.int .u64 x10).wf = true) ∧ (W.cell? (ad.add (i * 24 + 11)) = some (.int .u64 x11) ∧ (Lit.int .u64 x11).wf = true) ∧ (W.cell? (ad.add (i * 24 + 12)) = some (.int .u64 x12) ∧ (Lit.int .u64 x12).wf = true) ∧ (W.cell? (ad.add (i * 24 + 13)) = some (.int .u64 x13) ∧ (Lit.int .u64 x13).wf = true) ∧ (W.cell? (ad.add (i * 24 + 14)) = some (.int .u64 x14) ∧ (Lit.int .u64 x14).wf = true) ∧ (W.cell? (ad.add (i * 24 + 15)) = some (.int .u64 x15) ∧ (Lit.int .u64 x15).wf = true) ∧ (W.cell? (ad.add (i * 24 + 16)) = some (.int .u64 x16) ∧ (Lit.int .u64 x16).wf = true) ∧ (W.cell? (ad.add (i * 24 + 17)) = some (.int .u64 x17) ∧ (Lit.int .u64 x17).wf = true) ∧ (W.cell? (ad.add (i * 24 + 18)) = some (.int .u64 x18) ∧ (Lit.int .u64 x18).wf = true) ∧ (W.cell? (ad.add (i * 24 + 19)) = some (.int .u64 x19) ∧ (Lit.int .u64 x19).wf = true) ∧ (W.cell? (ad.add (i * 24 + 20)) = some (.int .i64 x20) ∧ (Lit.int .i64 x20).wf = true) ∧ (W.cell? (ad.add (i * 24 + 21)) = some (.int .i64 x21) ∧ (Lit.int .i64 x21).wf = true) ∧ (W.cell? (ad.add (i * 24 + 22)) = some (.int .u32 x22) ∧ (Lit.int .u32 x22).wf = true) ∧ (W.cell? (ad.add (i * 24 + 23)) = some (.int .u64 x23) ∧ (Lit.int .u64 x23).wf = true) := by
    intro i hi
    obtain ⟨ad, hA, hb, mm, cs, yy, hl, hcl, ht⟩ := raw2 i hi
    obtain _ | ⟨c_0, cs⟩ := cs
    · simp at hl
    obtain _ | ⟨c_1, cs⟩ := cs
    · simp at hl
    obtain _ | ⟨c_2, cs⟩ := cs
    · simp at hl
    obtain _ | ⟨c_3, cs⟩ := cs
    · simp at hl
    obtain _ | ⟨c_4, cs⟩ := cs
    · simp at hl
    obtain _ | ⟨c_5, cs⟩ := cs
    · simp at hl
    obtain _ | ⟨c_6, cs⟩ := cs
    · simp at hl
    obtain _ | ⟨c_7, cs⟩ := cs
    · simp at hl
    obtain _ | ⟨c_8, cs⟩ := cs
    · simp at hl
    obtain _ | ⟨c_9, cs⟩ := cs
    · simp at hl
    obtain _ | ⟨c_10, cs⟩ := cs
    · simp at hl
    obtain _ | ⟨c_11, cs⟩ := cs
    · simp at hl
    obtain _ | ⟨c_12, cs⟩ := cs
    · simp at hl
    obtain _ | ⟨c_13, cs⟩ := cs
    · simp at hl
    obtain _ | ⟨c_14, cs⟩ := cs
    · simp at hl
    obtain _ | ⟨c_15, cs⟩ := cs
    · simp at hl
    obtain _ | ⟨c_16, cs⟩ := cs
    · simp at hl
    obtain _ | ⟨c_17, cs⟩ := cs
    · simp at hl
    obtain _ | ⟨c_18, cs⟩ := cs
    · simp at hl
    obtain _ | ⟨c_19, cs⟩ := cs
    · simp at hl
    obtain _ | ⟨c_20, cs⟩ := cs
    · simp at hl
    obtain _ | ⟨c_21, cs⟩ := cs
    · simp at hl
    obtain _ | ⟨c_22, cs⟩ := cs
    · simp at hl
    obtain _ | ⟨c_23, cs⟩ := cs
    · simp at hl
    obtain _ | ⟨_, _⟩ := cs
    rotate_left
    · simp at hl
    have hc_0 := hcl 0 (by decide)
    have hc_1 := hcl 1 (by decide)
    have hc_2 := hcl 2 (by decide)
    have hc_3 := hcl 3 (by decide)
    have hc_4 := hcl 4 (by decide)
    have hc_5 := hcl 5 (by decide)
    have hc_6 := hcl 6 (by decide)
    have hc_7 := hcl 7 (by decide)
    have hc_8 := hcl 8 (by decide)
    have hc_9 := hcl 9 (by decide)
    have hc_10 := hcl 10 (by decide)
    have hc_11 := hcl 11 (by decide)
    have hc_12 := hcl 12 (by decide)
    have hc_13 := hcl 13 (by decide)
    have hc_14 := hcl 14 (by decide)
    have hc_15 := hcl 15 (by decide)
    have hc_16 := hcl 16 (by decide)
    have hc_17 := hcl 17 (by decide)
    have hc_18 := hcl 18 (by decide)
    have hc_19 := hcl 19 (by decide)
    have hc_20 := hcl 20 (by decide)
    have hc_21 := hcl 21 (by decide)
    have hc_22 := hcl 22 (by decide)
    have hc_23 := hcl 23 (by decide)
    clear hcl
    simp only [List.getElem?_cons_zero, List.getElem?_cons_succ] at hc_0 hc_1 hc_2 hc_3 hc_4 hc_5 hc_6 hc_7 hc_8 hc_9 hc_10 hc_11 hc_12 hc_13 hc_14 hc_15 hc_16 hc_17 hc_18 hc_19 hc_20 hc_21 hc_22 hc_23
    obtain ⟨mq, fq⟩ := Op.read_struct Try.underlying54 ht
    obtain ⟨zq_0, gq_0⟩ := fq 0 _ rfl
    replace gq_0 : DataW.trod enc Try.prog W 0 (fun _ => true) true mq 5 [c_0] = some zq_0 := gq_0
    obtain ⟨x0, ee0, _, ww0⟩ := DataW.trod_int Try.underlying5 gq_0
    simp at ee0; subst ee0
    obtain ⟨zq_1, gq_1⟩ := fq 1 _ rfl
    replace gq_1 : DataW.trod enc Try.prog W 0 (fun _ => true) true mq 22 [c_1] = some zq_1 := gq_1
    obtain ⟨x1, ee1, _, ww1⟩ := DataW.trod_int Try.underlying22 gq_1
    simp at ee1; subst ee1
    obtain ⟨zq_2, gq_2⟩ := fq 2 _ rfl
    replace gq_2 : DataW.trod enc Try.prog W 0 (fun _ => true) true mq 22 [c_2] = some zq_2 := gq_2
    obtain ⟨x2, ee2, _, ww2⟩ := DataW.trod_int Try.underlying22 gq_2
    simp at ee2; subst ee2
    obtain ⟨zq_3, gq_3⟩ := fq 3 _ rfl
    replace gq_3 : DataW.trod enc Try.prog W 0 (fun _ => true) true mq 52 [c_3, c_4, c_5] = some zq_3 := gq_3
    obtain ⟨mq_3, fq_3⟩ := Op.read_struct Try.underlying52 gq_3
    obtain ⟨zq_3_0, gq_3_0⟩ := fq_3 0 _ rfl
    replace gq_3_0 : DataW.trod enc Try.prog W 0 (fun _ => true) true mq_3 22 [c_3] = some zq_3_0 := gq_3_0
    obtain ⟨x3, ee3, _, ww3⟩ := DataW.trod_int Try.underlying22 gq_3_0
    simp at ee3; subst ee3
    obtain ⟨zq_3_1, gq_3_1⟩ := fq_3 1 _ rfl
    replace gq_3_1 : DataW.trod enc Try.prog W 0 (fun _ => true) true mq_3 3 [c_4] = some zq_3_1 := gq_3_1
    obtain ⟨x4, ee4, _, ww4⟩ := DataW.trod_int Try.underlying3 gq_3_1
    simp at ee4; subst ee4
    obtain ⟨zq_3_2, gq_3_2⟩ := fq_3 2 _ rfl
    replace gq_3_2 : DataW.trod enc Try.prog W 0 (fun _ => true) true mq_3 4 [c_5] = some zq_3_2 := gq_3_2
    obtain ⟨x5, ee5, _⟩ := DataW.trod_bool Try.underlying4 gq_3_2
    simp at ee5; subst ee5
    obtain ⟨zq_4, gq_4⟩ := fq 4 _ rfl
    replace gq_4 : DataW.trod enc Try.prog W 0 (fun _ => true) true mq 4 [c_6] = some zq_4 := gq_4
    obtain ⟨x6, ee6, _⟩ := DataW.trod_bool Try.underlying4 gq_4
    simp at ee6; subst ee6
    obtain ⟨zq_5, gq_5⟩ := fq 5 _ rfl
    replace gq_5 : DataW.trod enc Try.prog W 0 (fun _ => true) true mq 4 [c_7] = some zq_5 := gq_5
    obtain ⟨x7, ee7, _⟩ := DataW.trod_bool Try.underlying4 gq_5
    simp at ee7; subst ee7
    obtain ⟨zq_6, gq_6⟩ := fq 6 _ rfl
    replace gq_6 : DataW.trod enc Try.prog W 0 (fun _ => true) true mq 24 [c_8, c_9, c_10, c_11, c_12, c_13, c_14, c_15, c_16, c_17, c_18, c_19] = some zq_6 := gq_6
    obtain ⟨mq_6, fq_6⟩ := Op.read_struct Try.underlying24 gq_6
    obtain ⟨zq_6_0, gq_6_0⟩ := fq_6 0 _ rfl
    replace gq_6_0 : DataW.trod enc Try.prog W 0 (fun _ => true) true mq_6 22 [c_8] = some zq_6_0 := gq_6_0
    obtain ⟨x8, ee8, _, ww8⟩ := DataW.trod_int Try.underlying22 gq_6_0
    simp at ee8; subst ee8
    obtain ⟨zq_6_1, gq_6_1⟩ := fq_6 1 _ rfl
    replace gq_6_1 : DataW.trod enc Try.prog W 0 (fun _ => true) true mq_6 22 [c_9] = some zq_6_1 := gq_6_1
    obtain ⟨x9, ee9, _, ww9⟩ := DataW.trod_int Try.underlying22 gq_6_1
    simp at ee9; subst ee9
    obtain ⟨zq_6_2, gq_6_2⟩ := fq_6 2 _ rfl
    replace gq_6_2 : DataW.trod enc Try.prog W 0 (fun _ => true) true mq_6 22 [c_10] = some zq_6_2 := gq_6_2
    obtain ⟨x10, ee10, _, ww10⟩ := DataW.trod_int Try.underlying22 gq_6_2
    simp at ee10; subst ee10
    obtain ⟨zq_6_3, gq_6_3⟩ := fq_6 3 _ rfl
    replace gq_6_3 : DataW.trod enc Try.prog W 0 (fun _ => true) true mq_6 22 [c_11] = some zq_6_3 := gq_6_3
    obtain ⟨x11, ee11, _, ww11⟩ := DataW.trod_int Try.underlying22 gq_6_3
    simp at ee11; subst ee11
    obtain ⟨zq_6_4, gq_6_4⟩ := fq_6 4 _ rfl
    replace gq_6_4 : DataW.trod enc Try.prog W 0 (fun _ => true) true mq_6 22 [c_12] = some zq_6_4 := gq_6_4
    obtain ⟨x12, ee12, _, ww12⟩ := DataW.trod_int Try.underlying22 gq_6_4
    simp at ee12; subst ee12
    obtain ⟨zq_6_5, gq_6_5⟩ := fq_6 5 _ rfl
    replace gq_6_5 : DataW.trod enc Try.prog W 0 (fun _ => true) true mq_6 22 [c_13] = some zq_6_5 := gq_6_5
    obtain ⟨x13, ee13, _, ww13⟩ := DataW.trod_int Try.underlying22 gq_6_5
    simp at ee13; subst ee13
    obtain ⟨zq_6_6, gq_6_6⟩ := fq_6 6 _ rfl
    replace gq_6_6 : DataW.trod enc Try.prog W 0 (fun _ => true) true mq_6 22 [c_14] = some zq_6_6 := gq_6_6
    obtain ⟨x14, ee14, _, ww14⟩ := DataW.trod_int Try.underlying22 gq_6_6
    simp at ee14; subst ee14
    obtain ⟨zq_6_7, gq_6_7⟩ := fq_6 7 _ rfl
    replace gq_6_7 : DataW.trod enc Try.prog W 0 (fun _ => true) true mq_6 22 [c_15] = some zq_6_7 := gq_6_7
    obtain ⟨x15, ee15, _, ww15⟩ := DataW.trod_int Try.underlying22 gq_6_7
    simp at ee15; subst ee15
    obtain ⟨zq_6_8, gq_6_8⟩ := fq_6 8 _ rfl
    replace gq_6_8 : DataW.trod enc Try.prog W 0 (fun _ => true) true mq_6 22 [c_16] = some zq_6_8 := gq_6_8
    obtain ⟨x16, ee16, _, ww16⟩ := DataW.trod_int Try.underlying22 gq_6_8
    simp at ee16; subst ee16
    obtain ⟨zq_6_9, gq_6_9⟩ := fq_6 9 _ rfl
    replace gq_6_9 : DataW.trod enc Try.prog W 0 (fun _ => true) true mq_6 22 [c_17] = some zq_6_9 := gq_6_9
    obtain ⟨x17, ee17, _, ww17⟩ := DataW.trod_int Try.underlying22 gq_6_9
    simp at ee17; subst ee17
    obtain ⟨zq_6_10, gq_6_10⟩ := fq_6 10 _ rfl
    replace gq_6_10 : DataW.trod enc Try.prog W 0 (fun _ => true) true mq_6 22 [c_18] = some zq_6_10 := gq_6_10
    obtain ⟨x18, ee18, _, ww18⟩ := DataW.trod_int Try.underlying22 gq_6_10
    simp at ee18; subst ee18
    obtain ⟨zq_6_11, gq_6_11⟩ := fq_6 11 _ rfl
    replace gq_6_11 : DataW.trod enc Try.prog W 0 (fun _ => true) true mq_6 22 [c_19] = some zq_6_11 := gq_6_11
    obtain ⟨x19, ee19, _, ww19⟩ := DataW.trod_int Try.underlying22 gq_6_11
    simp at ee19; subst ee19
    obtain ⟨zq_7, gq_7⟩ := fq 7 _ rfl
    replace gq_7 : DataW.trod enc Try.prog W 0 (fun _ => true) true mq 3 [c_20] = some zq_7 := gq_7
    obtain ⟨x20, ee20, _, ww20⟩ := DataW.trod_int Try.underlying3 gq_7
    simp at ee20; subst ee20
    obtain ⟨zq_8, gq_8⟩ := fq 8 _ rfl
    replace gq_8 : DataW.trod enc Try.prog W 0 (fun _ => true) true mq 3 [c_21] = some zq_8 := gq_8
    obtain ⟨x21, ee21, _, ww21⟩ := DataW.trod_int Try.underlying3 gq_8
    simp at ee21; subst ee21
    obtain ⟨zq_9, gq_9⟩ := fq 9 _ rfl
    replace gq_9 : DataW.trod enc Try.prog W 0 (fun _ => true) true mq 38 [c_22] = some zq_9 := gq_9
    obtain ⟨x22, ee22, _, ww22⟩ := DataW.trod_int Try.underlying38 gq_9
    simp at ee22; subst ee22
    obtain ⟨zq_10, gq_10⟩ := fq 10 _ rfl
    replace gq_10 : DataW.trod enc Try.prog W 0 (fun _ => true) true mq 22 [c_23] = some zq_10 := gq_10
    obtain ⟨x23, ee23, _, ww23⟩ := DataW.trod_int Try.underlying22 gq_10
    simp at ee23; subst ee23
    exact ⟨ad, hA, hb, x0, x1, x2, x3, x4, x5, x6, x7, x8, x9, x10, x11, x12, x13, x14, x15, x16, x17, x18, x19, x20, x21, x22, x23, ⟨hc_0, ww0⟩, ⟨hc_1, ww1⟩, ⟨hc_2, ww2⟩, ⟨hc_3, ww3⟩, ⟨hc_4, ww4⟩, hc_5, hc_6, hc_7, ⟨hc_8, ww8⟩, ⟨hc_9, ww9⟩, ⟨hc_10, ww10⟩, ⟨hc_11, ww11⟩, ⟨hc_12, ww12⟩, ⟨hc_13, ww13⟩, ⟨hc_14, ww14⟩, ⟨hc_15, ww15⟩, ⟨hc_16, ww16⟩, ⟨hc_17, ww17⟩, ⟨hc_18, ww18⟩, ⟨hc_19, ww19⟩, ⟨hc_20, ww20⟩, ⟨hc_21, ww21⟩, ⟨hc_22, ww22⟩, ⟨hc_23, ww23⟩⟩
  refine (walk W a0 w0 a1_0 w1_0 A1_1 n1_1 k1_1 mc1_1 cc1_1 el1_1 A2 m2 c2 mc2 cc2 el2).mono fun e W' ⟨he, bel⟩ => ?_
  subst he
  exact ⟨_, rfl, _, _, _, [], _, [], hW', trodAll_mk1 (shut_bool Try.underlying4 _), (trodAll_cons_mk (Below.trod laidOut (by kernel_rfl) (of_decide_eq_true (by kernel_rfl)) k0 bel lt0) (trodAll_cons_mk (Below.trod laidOut (by kernel_rfl) (of_decide_eq_true (by kernel_rfl)) k1 bel lt1) (trodAll_cons_mk (Below.trod laidOut (by kernel_rfl) (of_decide_eq_true (by kernel_rfl)) k2 bel lt2) trodAll_mk0))), rfl, bel.frame _, fun h => by cases h⟩

theorem over : Rows.tlbPlaysRow.holds Try.pinned (OpenSpec.ofChange Rows.tlbPlaysSpec) :=
  OpenClaim.holds_of_wide 7 Try.f7 rfl rfl rfl rfl rfl rfl rfl ⟨rfl, rfl, rfl, rfl, rfl⟩ rfl rfl rfl rfl rfl (by kernel_rfl) Try.func7 (by kernel_rfl)
    (of_decide_eq_true (by kernel_rfl)) (by unfold Func.isWrapper; first | (rw [if_pos (by decide +kernel)]; kernel_rfl) | (rw [if_neg (by decide +kernel)]; exact ⟨rfl, rfl⟩))
    (fun os started H enc _ => lifted os started H enc)

/-- The statement. -/
theorem proved : Rows.TlbPlaysSaid := over
#print axioms proved

end Go.Proofs.Ytkfmcbhoendocaa.tlbPlays
