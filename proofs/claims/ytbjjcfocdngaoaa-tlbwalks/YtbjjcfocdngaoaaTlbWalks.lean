/-
  Proved: for any most, any memory, and any things that are done, the law TlbWalks returns true: over memory, and by a table, that stay an address is where a walk leads, or faults as that does.
  Conditions: none beyond the statement's own.
-/
import Derived.Test.YtbjjcfocdngaoaaRows
import Derived.Test.YtbjjcfocdngaoaaLayO
import Derived.Lib.Hide
import Derived.Deep.Cut
import Derived.Test.YtbjjcfocdngaoaaTlbO
import Derived.Test.YtbjjcfocdngaoaaTlbY
import Derived.Test.YtbjjcfocdngaoaaWalkQ
namespace Go.Proofs.Ytbjjcfocdngaoaa.tlbWalks
open Go Go.ChangeShapes Go.WideShapes Go.ChangeAt Go.RowKit W M D A C P K
set_option linter.unusedVariables false
set_option linter.unusedSimpArgs false

set_option maxRecDepth 100000 in
set_option maxHeartbeats 8000000 in
theorem walk (w : World) (a0 : Int) (w0 : (Lit.int .i64 a0).wf = true) (a1_0 : Int) (w1_0 : (Lit.int .u8 a1_0).wf = true) (A1_1 : Option Addr) (n1_1 k1_1 : Nat) (mc1_1 : n1_1 ≤ k1_1) (cc1_1 : k1_1 ≤ 9223372036854775807) (el1_1 : ∀ i, i < n1_1 → ∃ ad, A1_1 = some ad ∧ ad.block < w.heap.size ∧ ∃ (x0 : Int) (x1 : Int), (w.cell? (ad.add (i * 2 + 0)) = some (.int .u32 x0) ∧ (Lit.int .u32 x0).wf = true) ∧ (w.cell? (ad.add (i * 2 + 1)) = some (.int .u64 x1) ∧ (Lit.int .u64 x1).wf = true)) (A2 : Option Addr) (m2 c2 : Nat) (mc2 : m2 ≤ c2) (cc2 : c2 ≤ 9223372036854775807) (el2 : ∀ i, i < m2 → ∃ ad, A2 = some ad ∧ ad.block < w.heap.size ∧ ∃ (x0 : Int) (x1 : Int) (x2 : Int) (x3 : Int) (x4 : Int) (x5 : Bool) (x6 : Bool) (x7 : Bool) (x8 : Int) (x9 : Int) (x10 : Int) (x11 : Int) (x12 : Int) (x13 : Int) (x14 : Int) (x15 : Int) (x16 : Int) (x17 : Int) (x18 : Int) (x19 : Int) (x20 : Int) (x21 : Int) (x22 : Int) (x23 : Int), (w.cell? (ad.add (i * 24 + 0)) = some (.int .u8 x0) ∧ (Lit.int .u8 x0).wf = true) ∧ (w.cell? (ad.add (i * 24 + 1)) = some (.int .u64 x1) ∧ (Lit.int .u64 x1).wf = true) ∧ (w.cell? (ad.add (i * 24 + 2)) = some (.int .u64 x2) ∧ (Lit.int .u64 x2).wf = true) ∧ (w.cell? (ad.add (i * 24 + 3)) = some (.int .u64 x3) ∧ (Lit.int .u64 x3).wf = true) ∧ (w.cell? (ad.add (i * 24 + 4)) = some (.int .i64 x4) ∧ (Lit.int .i64 x4).wf = true) ∧ (w.cell? (ad.add (i * 24 + 5)) = some (.bool x5)) ∧ (w.cell? (ad.add (i * 24 + 6)) = some (.bool x6)) ∧ (w.cell? (ad.add (i * 24 + 7)) = some (.bool x7)) ∧ (w.cell? (ad.add (i * 24 + 8)) = some (.int .u64 x8) ∧ (Lit.int .u64 x8).wf = true) ∧ (w.cell? (ad.add (i * 24 + 9)) = some (.int .u64 x9) ∧ (Lit.int .u64 x9).wf = true) ∧ (w.cell? (ad.add (i * 24 + 10)) = some (.int .u64 x10) ∧ (Lit.int .u64 x10).wf = true) ∧ (w.cell? (ad.add (i * 24 + 11)) = some (.int .u64 x11) ∧ (Lit.int .u64 x11).wf = true) ∧ (w.cell? (ad.add (i * 24 + 12)) = some (.int .u64 x12) ∧ (Lit.int .u64 x12).wf = true) ∧ (w.cell? (ad.add (i * 24 + 13)) = some (.int .u64 x13) ∧ (Lit.int .u64 x13).wf = true) ∧ (w.cell? (ad.add (i * 24 + 14)) = some (.int .u64 x14) ∧ (Lit.int .u64 x14).wf = true) ∧ (w.cell? (ad.add (i * 24 + 15)) = some (.int .u64 x15) ∧ (Lit.int .u64 x15).wf = true) ∧ (w.cell? (ad.add (i * 24 + 16)) = some (.int .u64 x16) ∧ (Lit.int .u64 x16).wf = true) ∧ (w.cell? (ad.add (i * 24 + 17)) = some (.int .u64 x17) ∧ (Lit.int .u64 x17).wf = true) ∧ (w.cell? (ad.add (i * 24 + 18)) = some (.int .u64 x18) ∧ (Lit.int .u64 x18).wf = true) ∧ (w.cell? (ad.add (i * 24 + 19)) = some (.int .u64 x19) ∧ (Lit.int .u64 x19).wf = true) ∧ (w.cell? (ad.add (i * 24 + 20)) = some (.int .i64 x20) ∧ (Lit.int .i64 x20).wf = true) ∧ (w.cell? (ad.add (i * 24 + 21)) = some (.int .i64 x21) ∧ (Lit.int .i64 x21).wf = true) ∧ (w.cell? (ad.add (i * 24 + 22)) = some (.int .u32 x22) ∧ (Lit.int .u32 x22).wf = true) ∧ (w.cell? (ad.add (i * 24 + 23)) = some (.int .u64 x23) ∧ (Lit.int .u64 x23).wf = true)) :
    Calls Try.prog 3 #[.int .i64 a0, .agg #[.int .u8 a1_0, .slice A1_1 n1_1 k1_1], .slice A2 m2 c2] w fun e w' => e = .returned (.bool true) ∧ Below w.heap.size w w' := by
  have hm0 : I64 a0 := bounds_i64 w0
  have ha : 0 ≤ a1_0 ∧ a1_0 ≤ 255 := bounds_u8 w1_0
  obtain ⟨f, h, hE⟩ := elems_of el1_1
  obtain ⟨bs, hbs⟩ : ∃ bs, bs = fillV f h (min n1_1 64) (List.replicate ((1 + a1_0 % 16).toNat * 4096) 0) := ⟨_, rfl⟩
  have BT := Lib.hid (fun W hW => both_c a1_0 ha A1_1 n1_1 k1_1 mc1_1 cc1_1 f h W hW)
  rw [← hbs] at BT
  have HE := Lib.hid hE
  obtain ⟨F, hOps⟩ := ops_of el2
  have HO := Lib.hid hOps
  have NW := Lib.hid (fun W => TNew_c a0 hm0 W)
  have hmost := T.most_le a0
  have LN := Lib.hid (fun B p v n L W hh => Len_c B p (T.mostV a0) v n L W hh)
  clear hbs w0 w1_0 el1_1 el2 hE hOps hm0
  have HR0 := Lib.hid (Row.fresh w 24 [.int .u8 a1_0, .slice A1_1 n1_1 k1_1])
  have HG0 := Lib.hid (gr_alloc (gr_refl w none) (.cells #[.int .u8 a1_0, .slice A1_1 n1_1 k1_1] 24))
  generalize T.mostV a0 = most at *
  go_enter Try.func3, Try.ntmps3
  go_wp2_with fail
  generalize w.alloc (.cells #[.int .u8 a1_0, .slice A1_1 n1_1 k1_1] 24) = V at *
  refine (shown12_c _).mono ?_
  rintro e w1 ⟨rfl, hG⟩
  have hR1 := HR0.out.grown hG (by simp)
  have hG1 := gr_trans HG0.out hG
  have hE1 := (HE.out.turn (w' := w1) (fun ad had => cell_grown hG1 had (by simp))).more hG1.size
  clear HR0 HG0 HE hG
  obtain ⟨b, hb⟩ : ∃ b, b = w.heap.size := ⟨_, rfl⟩
  rw [← hb] at hR1 ⊢
  have HB := Lib.hid hb
  clear hb
  have m0 : w1.cell? ⟨b, 0, none⟩ = some (.int .u8 a1_0) := hR1.cell 0
  have m1 : w1.cell? ⟨b, 1, none⟩ = some (.slice A1_1 n1_1 k1_1) := hR1.cell 1
  have lt := hR1.lt
  go_wp2_with fail
  refine (BT.out _ hE1).mono ?_
  rintro e w2 ⟨pm, gm, p', g', rfl, hA, -, hG⟩
  have hT2 := hR1.grown hG (by simp)
  have hG2 := gr_trans hG1 hG
  clear hR1 hG hG1 hE1 m0 m1 lt BT
  go_wp2_with fail
  refine (NW.out _).mono ?_
  rintro e w3 ⟨rfl, hN, hG⟩
  have hL : Lt w 24 b [.int .u8 a1_0, .slice A1_1 n1_1 k1_1] pm gm bs w2.heap.size most (.slice none 0 0) 0 [] w3 := ⟨hT2.grown hG (by simp), hA.kept hG, held_less hN hG2.size, gr_trans hG2 hG⟩
  clear hT2 hA hN hG hG2 NW
  generalize w2.heap.size = p at *
  have HL := Lib.hid hL
  clear hL
  go_wp2_with fail
  go_loopw [11] (fun i wr => ∃ (j : Nat) (v : Value) (n : Int) (L : List T.Lf), i = .int .i64 j ∧ j ≤ m2 ∧ j ≤ 40 ∧ Lt w 24 b [.int .u8 a1_0, .slice A1_1 n1_1 k1_1] pm gm bs p most v n L wr ∧ (∀ k ∈ L, T.Sound bs (gC (F 0).c 9) k)) (fun i _ => 40 - (intOf i).toNat)
  case atStart => exact ⟨0, _, _, _, rfl, by omega, by omega, HL.out, fun k hk => by cases hk⟩
  case round =>
    clear HL
    obtain ⟨j, v, n, L, rfl, hj, hj40, hL, hS⟩ := hrel
    have HL := Lib.hid hL
    have HS := Lib.hid hS
    by_cases hlt : j < m2
    · by_cases h40 : j < 40
      · obtain ⟨ad, rfl, hadb, hcell, hfine⟩ := (HO.out.go hL.gr) j hlt
        obtain ⟨ad2, e2, -, hcell0, hfine0⟩ := (HO.out.go hL.gr) 0 (by omega)
        injection e2 with e2
        subst e2
        have hadw : ad.block < wr.heap.size := by have := hL.gr.size; omega
        obtain ⟨s0, hs0⟩ : ∃ s, s = gC (F 0).c 9 := ⟨_, rfl⟩
        have hsat := hcell0 17 (by omega)
        have hs64 : B64 s0 := by rw [hs0]; exact hfine0.c.get 9
        obtain ⟨c0', hc0'⟩ : ∃ c, c = (F 0).c := ⟨_, rfl⟩
        have hc12 := hfine0.c.1
        rw [← hs0] at HS
        generalize F 0 = o0 at *
        obtain ⟨_, _, _, _, _, _, _, _, cc0, _, _, _, _⟩ := o0
        simp only at hs0 hc0' hc12
        obtain ⟨e0, e1, e2, e3, e4, e5, e6, e7, e8, e9, e10, e11, rfl⟩ := twelve hc12
        replace hsat : _ = some (.int .u64 e9 : Value) := hsat
        have hse : s0 = e9 := hs0
        subst hse
        have HSAT := Lib.hid hsat
        clear hs0 hc0' hc12 hcell0 hfine0 hsat
        obtain ⟨⟨kd, va, asi, pt, lv, gl, al, ev, cc, pr, hw, ata, xx⟩, ho⟩ : ∃ o, o = F j := ⟨_, rfl⟩
        rw [← ho] at hcell hfine
        obtain ⟨hkd, hva, has, hpt, hlv, hcc, hpr, hhw, hata, hxx⟩ := hfine
        simp only at hkd hva has hpt hlv hcc hpr hhw hata hxx
        obtain ⟨c0, c1, c2, c3, c4, c5, c6, c7, c8, c9, c10, c11, rfl⟩ := twelve hcc.1
        clear ho
        have HLD := Lib.hid (show ∀ q v, ([.int .u8 kd, .int .u64 va, .int .u64 asi, .int .u64 pt, .int .i64 lv, .bool gl, .bool al, .bool ev, .int .u64 c0, .int .u64 c1, .int .u64 c2, .int .u64 c3, .int .u64 c4, .int .u64 c5, .int .u64 c6, .int .u64 c7, .int .u64 c8, .int .u64 c9, .int .u64 c10, .int .u64 c11, .int .i64 pr, .int .i64 hw, .int .u32 ata, .int .u64 xx] : List Value)[q]? = some v → wr.cell? ((ad.add (j * 24)).add q) = some v from fun q v hq => by
          have hql : q < 24 := (List.getElem?_eq_some_iff.1 hq).1
          rw [Deep.add_add, hcell q hql]
          exact hq)
        have hand := and_7 kd hkd
        have hc2 : C.Good [c0, c1, c2, c3, c4, c5, c6, c7, c8, s0, c10, c11] := good12 (hcc.get 0) (hcc.get 1) (hcc.get 2) (hcc.get 3) (hcc.get 4) (hcc.get 5) (hcc.get 6) (hcc.get 7) (hcc.get 8) hs64 (hcc.get 10) (hcc.get 11)
        have FL := Lib.hid (fun B p v n L W hh => Flush_c B p most v n L al ev va asi hva has W hh)
        have HX := Lib.hid (And.intro hva (And.intro hc2 (And.intro hpr hhw)))
        clear hcell hcc hc2 hS hL
        unfold B64 at hva has hpt hs64 hxx
        unfold I64 at hlv hpr hhw
        have hFS := fresh_set wr 40 [.int .u8 0, .int .u64 0, .int .u64 0, .int .u64 0, .int .i64 0, .bool false, .bool false, .bool false, .int .u64 0, .int .u64 0, .int .u64 0, .int .u64 0, .int .u64 0, .int .u64 0, .int .u64 0, .int .u64 0, .int .u64 0, .int .u64 0, .int .u64 0, .int .u64 0, .int .i64 0, .int .i64 0, .int .u32 0, .int .u64 0] (opC ⟨kd, va, asi, pt, lv, gl, al, ev, [c0, c1, c2, c3, c4, c5, c6, c7, c8, c9, c10, c11], pr, hw, ata, xx⟩) rfl
        have HFS := Lib.hid hFS
        clear hFS
        by_cases hk2 : kd % 8 = 2
        · have hke : (kd % 8 == 2) = true := by simp [hk2]
          clear hk2 HX
          go_wp2_with (first | (with_reducible refine wpList_load_at rfl 40 (.tmp 48) rfl (ad.add (j * 24)) rfl [.int .u8 kd, .int .u64 va, .int .u64 asi, .int .u64 pt, .int .i64 lv, .bool gl, .bool al, .bool ev, .int .u64 c0, .int .u64 c1, .int .u64 c2, .int .u64 c3, .int .u64 c4, .int .u64 c5, .int .u64 c6, .int .u64 c7, .int .u64 c8, .int .u64 c9, .int .u64 c10, .int .u64 c11, .int .i64 pr, .int .i64 hw, .int .u32 ata, .int .u64 xx] _ HLD.out Try.underlying40 rfl (by kernel_rfl) ?_) | (refine wpList_store_op rfl (.tmp 12) (.tmp 49) rfl ⟨kd, va, asi, pt, lv, gl, al, ev, [c0, c1, c2, c3, c4, c5, c6, c7, c8, c9, c10, c11], pr, hw, ata, xx⟩ rfl [.int .u8 0, .int .u64 0, .int .u64 0, .int .u64 0, .int .i64 0, .bool false, .bool false, .bool false, .int .u64 0, .int .u64 0, .int .u64 0, .int .u64 0, .int .u64 0, .int .u64 0, .int .u64 0, .int .u64 0, .int .u64 0, .int .u64 0, .int .u64 0, .int .u64 0, .int .i64 0, .int .i64 0, .int .u32 0, .int .u64 0] rfl rfl rfl ?_; obtain ⟨hT0, hGS⟩ := HFS.out; have hL0 := HL.out.keep hGS; have hsat0 := (cell_grown hGS (a := ad.add (0 * 24 + 17)) (by rw [add_block]; exact hadw) (by simp)).trans HSAT.out; have hadU := Nat.lt_of_lt_of_le hadw hGS.size; have HSAT0 := Lib.hid hsat0; clear HFS hGS HLD hadw HSAT hsat0; generalize ((wr.alloc (.cells ([.int .u8 0, .int .u64 0, .int .u64 0, .int .u64 0, .int .i64 0, .bool false, .bool false, .bool false, .int .u64 0, .int .u64 0, .int .u64 0, .int .u64 0, .int .u64 0, .int .u64 0, .int .u64 0, .int .u64 0, .int .u64 0, .int .u64 0, .int .u64 0, .int .u64 0, .int .i64 0, .int .i64 0, .int .u32 0, .int .u64 0] : List Value).toArray 40)).setCells wr.heap.size 0 (opC ⟨kd, va, asi, pt, lv, gl, al, ev, [c0, c1, c2, c3, c4, c5, c6, c7, c8, c9, c10, c11], pr, hw, ata, xx⟩)) = U at *; generalize wr.heap.size = t at *; have k0 : U.cell? ⟨t, 0, none⟩ = some (.int .u8 kd) := hT0.cell 0; have k1 : U.cell? ⟨t, 1, none⟩ = some (.int .u64 va) := hT0.cell 1; have k2 : U.cell? ⟨t, 2, none⟩ = some (.int .u64 asi) := hT0.cell 2; have k3 : U.cell? ⟨t, 3, none⟩ = some (.int .u64 pt) := hT0.cell 3; have k4 : U.cell? ⟨t, 4, none⟩ = some (.int .i64 lv) := hT0.cell 4; have k5 : U.cell? ⟨t, 5, none⟩ = some (.bool gl) := hT0.cell 5; have k6 : U.cell? ⟨t, 6, none⟩ = some (.bool al) := hT0.cell 6; have k7 : U.cell? ⟨t, 7, none⟩ = some (.bool ev) := hT0.cell 7; have k8 : U.cell? ⟨t, 8, none⟩ = some (.int .u64 c0) := hT0.cell 8; have k9 : U.cell? ⟨t, 9, none⟩ = some (.int .u64 c1) := hT0.cell 9; have k10 : U.cell? ⟨t, 10, none⟩ = some (.int .u64 c2) := hT0.cell 10; have k11 : U.cell? ⟨t, 11, none⟩ = some (.int .u64 c3) := hT0.cell 11; have k12 : U.cell? ⟨t, 12, none⟩ = some (.int .u64 c4) := hT0.cell 12; have k13 : U.cell? ⟨t, 13, none⟩ = some (.int .u64 c5) := hT0.cell 13; have k14 : U.cell? ⟨t, 14, none⟩ = some (.int .u64 c6) := hT0.cell 14; have k15 : U.cell? ⟨t, 15, none⟩ = some (.int .u64 c7) := hT0.cell 15; have k16 : U.cell? ⟨t, 16, none⟩ = some (.int .u64 c8) := hT0.cell 16; have k17 : U.cell? ⟨t, 17, none⟩ = some (.int .u64 c9) := hT0.cell 17; have k18 : U.cell? ⟨t, 18, none⟩ = some (.int .u64 c10) := hT0.cell 18; have k19 : U.cell? ⟨t, 19, none⟩ = some (.int .u64 c11) := hT0.cell 19; have k20 : U.cell? ⟨t, 20, none⟩ = some (.int .i64 pr) := hT0.cell 20; have k21 : U.cell? ⟨t, 21, none⟩ = some (.int .i64 hw) := hT0.cell 21; have k22 : U.cell? ⟨t, 22, none⟩ = some (.int .u32 ata) := hT0.cell 22; have k23 : U.cell? ⟨t, 23, none⟩ = some (.int .u64 xx) := hT0.cell 23; have lt := hT0.lt; have HL0 := Lib.hid hL0; have HT0 := Lib.hid hT0; clear hL0 hT0))
          refine (FL.out _ _ _ _ _ _ HL0.out.row).mono ?_
          rintro e w4 ⟨rfl, hT⟩
          obtain ⟨v', hL', -⟩ := HL0.out.turn (by decide) (by decide) hT
          clear hT k0 k1 k2 k3 k4 k5 k6 k7 k8 k9 k10 k11 k12 k13 k14 k15 k16 k17 k18 k19 k20 k21 k22 k23 lt HSAT0 hadU HT0
          go_wp2_with fail
          go_roundw
          case rel => exact ⟨j + 1, v', n, _, by go_num, by omega, by omega, hL', T.sound_flush HS.out al va ev asi⟩
          case measure => simp [intOf]; omega
        · have hke : (kd % 8 == 2) = false := by simp [hk2]
          clear hk2 FL
          obtain ⟨hva', hc2, hpr', hhw'⟩ := HX.out
          obtain ⟨z1, ⟨z2, z3, z4⟩, z5⟩ := T.sound_to (bs := bs) (L := L) (most := most) (sa := gC [c0, c1, c2, c3, c4, c5, c6, c7, c8, s0, c10, c11] 9) (st := gC [c0, c1, c2, c3, c4, c5, c6, c7, c8, s0, c10, c11] 0) (priv := pr) (kind := hw) (va := va) HS.out
          obtain ⟨x1, hx1⟩ : ∃ x, T.toRV bs L (gC [c0, c1, c2, c3, c4, c5, c6, c7, c8, s0, c10, c11] 9) (gC [c0, c1, c2, c3, c4, c5, c6, c7, c8, s0, c10, c11] 0) pr hw va = x := ⟨_, rfl⟩
          obtain ⟨R1, hR1⟩ : ∃ x, T.toFV bs L (gC [c0, c1, c2, c3, c4, c5, c6, c7, c8, s0, c10, c11] 9) (gC [c0, c1, c2, c3, c4, c5, c6, c7, c8, s0, c10, c11] 0) pr hw va = x := ⟨_, rfl⟩
          obtain ⟨L1, hL1⟩ : ∃ x, T.toLV bs most L (gC [c0, c1, c2, c3, c4, c5, c6, c7, c8, s0, c10, c11] 9) (gC [c0, c1, c2, c3, c4, c5, c6, c7, c8, s0, c10, c11] 0) pr hw va = x := ⟨_, rfl⟩
          obtain ⟨n1, hn1⟩ : ∃ x, T.toNV L n (gC [c0, c1, c2, c3, c4, c5, c6, c7, c8, s0, c10, c11] 9) (gC [c0, c1, c2, c3, c4, c5, c6, c7, c8, s0, c10, c11] 0) pr hw va = x := ⟨_, rfl⟩
          obtain ⟨R, hR⟩ : ∃ x, x = walkV bs (gC [c0, c1, c2, c3, c4, c5, c6, c7, c8, s0, c10, c11] 9) (gC [c0, c1, c2, c3, c4, c5, c6, c7, c8, s0, c10, c11] 0) pr hw va := ⟨_, rfl⟩
          have T1 := Lib.hid (fun pm gm B p v W hB hm hh => to12 hc2 hpr' hhw' hva' hx1 hR1 hL1 hn1 pm gm B p v W hB hm hh)
          rw [hx1] at z1
          rw [hR1, ← hR] at z2 z3 z4
          rw [hL1] at z5
          rw [z2, z3, z4] at T1
          have T2 := Lib.hid (fun pm gm W hm => to_at (p := pm) (g := gm) hc2 hpr' hhw' hva' hR z1 W hm)
          rw [show vC [c0, c1, c2, c3, c4, c5, c6, c7, c8, s0, c10, c11] = .agg #[.int .u64 c0, .int .u64 c1, .int .u64 c2, .int .u64 c3, .int .u64 c4, .int .u64 c5, .int .u64 c6, .int .u64 c7, .int .u64 c8, .int .u64 s0, .int .u64 c10, .int .u64 c11] from rfl] at T1 T2
          have Z5 := Lib.hid z5
          clear z1 z2 z3 z4 z5 hx1 hR1 hL1 hn1 hR hc2 hva' hpr' hhw' HX HS
          go_wp2_with (first | (with_reducible refine wpList_load_at rfl 40 (.tmp 48) rfl (ad.add (j * 24)) rfl [.int .u8 kd, .int .u64 va, .int .u64 asi, .int .u64 pt, .int .i64 lv, .bool gl, .bool al, .bool ev, .int .u64 c0, .int .u64 c1, .int .u64 c2, .int .u64 c3, .int .u64 c4, .int .u64 c5, .int .u64 c6, .int .u64 c7, .int .u64 c8, .int .u64 c9, .int .u64 c10, .int .u64 c11, .int .i64 pr, .int .i64 hw, .int .u32 ata, .int .u64 xx] _ HLD.out Try.underlying40 rfl (by kernel_rfl) ?_) | (refine wpList_store_op rfl (.tmp 12) (.tmp 49) rfl ⟨kd, va, asi, pt, lv, gl, al, ev, [c0, c1, c2, c3, c4, c5, c6, c7, c8, c9, c10, c11], pr, hw, ata, xx⟩ rfl [.int .u8 0, .int .u64 0, .int .u64 0, .int .u64 0, .int .i64 0, .bool false, .bool false, .bool false, .int .u64 0, .int .u64 0, .int .u64 0, .int .u64 0, .int .u64 0, .int .u64 0, .int .u64 0, .int .u64 0, .int .u64 0, .int .u64 0, .int .u64 0, .int .u64 0, .int .i64 0, .int .i64 0, .int .u32 0, .int .u64 0] rfl rfl rfl ?_; obtain ⟨hT0, hGS⟩ := HFS.out; have hL0 := HL.out.keep hGS; have hsat0 := (cell_grown hGS (a := ad.add (0 * 24 + 17)) (by rw [add_block]; exact hadw) (by simp)).trans HSAT.out; have hadU := Nat.lt_of_lt_of_le hadw hGS.size; have HSAT0 := Lib.hid hsat0; clear HFS hGS HLD hadw HSAT hsat0; generalize ((wr.alloc (.cells ([.int .u8 0, .int .u64 0, .int .u64 0, .int .u64 0, .int .i64 0, .bool false, .bool false, .bool false, .int .u64 0, .int .u64 0, .int .u64 0, .int .u64 0, .int .u64 0, .int .u64 0, .int .u64 0, .int .u64 0, .int .u64 0, .int .u64 0, .int .u64 0, .int .u64 0, .int .i64 0, .int .i64 0, .int .u32 0, .int .u64 0] : List Value).toArray 40)).setCells wr.heap.size 0 (opC ⟨kd, va, asi, pt, lv, gl, al, ev, [c0, c1, c2, c3, c4, c5, c6, c7, c8, c9, c10, c11], pr, hw, ata, xx⟩)) = U at *; generalize wr.heap.size = t at *; have k0 : U.cell? ⟨t, 0, none⟩ = some (.int .u8 kd) := hT0.cell 0; have k1 : U.cell? ⟨t, 1, none⟩ = some (.int .u64 va) := hT0.cell 1; have k2 : U.cell? ⟨t, 2, none⟩ = some (.int .u64 asi) := hT0.cell 2; have k3 : U.cell? ⟨t, 3, none⟩ = some (.int .u64 pt) := hT0.cell 3; have k4 : U.cell? ⟨t, 4, none⟩ = some (.int .i64 lv) := hT0.cell 4; have k5 : U.cell? ⟨t, 5, none⟩ = some (.bool gl) := hT0.cell 5; have k6 : U.cell? ⟨t, 6, none⟩ = some (.bool al) := hT0.cell 6; have k7 : U.cell? ⟨t, 7, none⟩ = some (.bool ev) := hT0.cell 7; have k8 : U.cell? ⟨t, 8, none⟩ = some (.int .u64 c0) := hT0.cell 8; have k9 : U.cell? ⟨t, 9, none⟩ = some (.int .u64 c1) := hT0.cell 9; have k10 : U.cell? ⟨t, 10, none⟩ = some (.int .u64 c2) := hT0.cell 10; have k11 : U.cell? ⟨t, 11, none⟩ = some (.int .u64 c3) := hT0.cell 11; have k12 : U.cell? ⟨t, 12, none⟩ = some (.int .u64 c4) := hT0.cell 12; have k13 : U.cell? ⟨t, 13, none⟩ = some (.int .u64 c5) := hT0.cell 13; have k14 : U.cell? ⟨t, 14, none⟩ = some (.int .u64 c6) := hT0.cell 14; have k15 : U.cell? ⟨t, 15, none⟩ = some (.int .u64 c7) := hT0.cell 15; have k16 : U.cell? ⟨t, 16, none⟩ = some (.int .u64 c8) := hT0.cell 16; have k17 : U.cell? ⟨t, 17, none⟩ = some (.int .u64 c9) := hT0.cell 17; have k18 : U.cell? ⟨t, 18, none⟩ = some (.int .u64 c10) := hT0.cell 18; have k19 : U.cell? ⟨t, 19, none⟩ = some (.int .u64 c11) := hT0.cell 19; have k20 : U.cell? ⟨t, 20, none⟩ = some (.int .i64 pr) := hT0.cell 20; have k21 : U.cell? ⟨t, 21, none⟩ = some (.int .i64 hw) := hT0.cell 21; have k22 : U.cell? ⟨t, 22, none⟩ = some (.int .u32 ata) := hT0.cell 22; have k23 : U.cell? ⟨t, 23, none⟩ = some (.int .u64 xx) := hT0.cell 23; have lt := hT0.lt; have HL0 := Lib.hid hL0; have HT0 := Lib.hid hT0; clear hL0 hT0) | (refine wpList_store_cs rfl (.tmp 13) (.tmp 65) rfl [c0, c1, c2, c3, c4, c5, c6, c7, c8, c9, c10, c11] rfl [.int .u64 0, .int .u64 0, .int .u64 0, .int .u64 0, .int .u64 0, .int .u64 0, .int .u64 0, .int .u64 0, .int .u64 0, .int .u64 0, .int .u64 0, .int .u64 0] rfl rfl rfl ?_; have hFS := fresh_set U 37 [.int .u64 0, .int .u64 0, .int .u64 0, .int .u64 0, .int .u64 0, .int .u64 0, .int .u64 0, .int .u64 0, .int .u64 0, .int .u64 0, .int .u64 0, .int .u64 0] (lC [c0, c1, c2, c3, c4, c5, c6, c7, c8, c9, c10, c11]) rfl; obtain ⟨hC0, hGS⟩ := hFS; have HLG := Lib.hid HL0.out.gr.size; have hL2 := HL0.out.keep hGS; have hT2 := HT0.out.grown hGS (by simp); have hsat1 := (cell_grown hGS (a := ad.add (0 * 24 + 17)) (by rw [add_block]; exact hadU) (by simp)).trans HSAT0.out; rw [show ad.add (0 * 24 + 17) = ⟨ad.block, ad.off + 17, none⟩ from by unfold Addr.add; rw [if_neg (by decide)]] at hsat1; have hadV := Nat.lt_of_lt_of_le hadU hGS.size; clear hGS HSAT0 HL0 HT0 hadU k0 k1 k2 k3 k4 k5 k6 k7 k8 k9 k10 k11 k12 k13 k14 k15 k16 k17 k18 k19 k20 k21 k22 k23 lt; generalize ((U.alloc (.cells ([.int .u64 0, .int .u64 0, .int .u64 0, .int .u64 0, .int .u64 0, .int .u64 0, .int .u64 0, .int .u64 0, .int .u64 0, .int .u64 0, .int .u64 0, .int .u64 0] : List Value).toArray 37)).setCells U.heap.size 0 (lC [c0, c1, c2, c3, c4, c5, c6, c7, c8, c9, c10, c11])) = U2 at *; generalize U.heap.size = qc at *; have m9 : U2.cell? ⟨qc, 9, none⟩ = some (.int .u64 c9) := hC0.cell 9; have mf := hC0.free 9; have mlt := hC0.lt; have HL2 := Lib.hid hL2; have HT2 := Lib.hid hT2; have HC2 := Lib.hid (hC0.put 9 (.int .u64 s0)); have HG9 := Lib.hid hC0; have KT1 : U2.cell? ⟨t, 1, none⟩ = some (.int .u64 va) := hT2.cell 1; have KT20 : U2.cell? ⟨t, 20, none⟩ = some (.int .i64 pr) := hT2.cell 20; have KT21 : U2.cell? ⟨t, 21, none⟩ = some (.int .i64 hw) := hT2.cell 21; have KTL := hT2.lt; have HQW := HLG; have y0 : U2.cell? ⟨qc, 0, none⟩ = some (.int .u64 c0) := hC0.cell 0; have y1 : U2.cell? ⟨qc, 1, none⟩ = some (.int .u64 c1) := hC0.cell 1; have y2 : U2.cell? ⟨qc, 2, none⟩ = some (.int .u64 c2) := hC0.cell 2; have y3 : U2.cell? ⟨qc, 3, none⟩ = some (.int .u64 c3) := hC0.cell 3; have y4 : U2.cell? ⟨qc, 4, none⟩ = some (.int .u64 c4) := hC0.cell 4; have y5 : U2.cell? ⟨qc, 5, none⟩ = some (.int .u64 c5) := hC0.cell 5; have y6 : U2.cell? ⟨qc, 6, none⟩ = some (.int .u64 c6) := hC0.cell 6; have y7 : U2.cell? ⟨qc, 7, none⟩ = some (.int .u64 c7) := hC0.cell 7; have y8 : U2.cell? ⟨qc, 8, none⟩ = some (.int .u64 c8) := hC0.cell 8; have y10 : U2.cell? ⟨qc, 10, none⟩ = some (.int .u64 c10) := hC0.cell 10; have y11 : U2.cell? ⟨qc, 11, none⟩ = some (.int .u64 c11) := hC0.cell 11; clear hC0 hL2 hT2 HLG))
          have hqw : w.heap.size ≤ qc := HQW.out
          have hL3 := HL2.out.set1 HG9.out (by decide) (by decide) (by decide) (by decide) (by decide) hqw 9 (.int .u64 s0)
          have hqt : t ≠ qc := HT2.out.apart HG9.out (by decide)
          have HT3 := Lib.hid (HT2.out.other (a := ⟨qc, 9, none⟩) hqt (.int .u64 s0))
          have HC3 := Lib.hid (show Row (U2.setCell ⟨qc, 9, none⟩ (.int .u64 s0)) qc 37 [.int .u64 c0, .int .u64 c1, .int .u64 c2, .int .u64 c3, .int .u64 c4, .int .u64 c5, .int .u64 c6, .int .u64 c7, .int .u64 c8, .int .u64 s0, .int .u64 c10, .int .u64 c11] from HC2.out)
          have HL3 := Lib.hid hL3
          clear hL3 HL2 HT2 HC2 HG9 hqw HQW KT1 KT20 KT21 KTL m9 mf mlt hsat1 hadV y0 y1 y2 y3 y4 y5 y6 y7 y8 y10 y11
          generalize U2.setCell ⟨qc, 9, none⟩ (.int .u64 s0) = U3 at *
          refine (T1.out _ _ _ _ _ _ HL3.out.gr.size HL3.out.mem HL3.out.row).mono ?_
          rintro e w4 ⟨rfl, hT⟩
          obtain ⟨v1, hL, hbt⟩ := HL3.out.turn (by decide) (by decide) hT
          have hT4 := own_row HL3.out hbt HT3.out (by decide) (by decide)
          have hC4 := own_row HL3.out hbt HC3.out (by decide) (by decide)
          have KT1 : w4.cell? ⟨t, 1, none⟩ = some (.int .u64 va) := hT4.cell 1
          have KT20 : w4.cell? ⟨t, 20, none⟩ = some (.int .i64 pr) := hT4.cell 20
          have KT21 : w4.cell? ⟨t, 21, none⟩ = some (.int .i64 hw) := hT4.cell 21
          have KTL := hT4.lt
          have KCL := hC4.lt
          have y0 : w4.cell? ⟨qc, 0, none⟩ = some (.int .u64 c0) := hC4.cell 0
          have y1 : w4.cell? ⟨qc, 1, none⟩ = some (.int .u64 c1) := hC4.cell 1
          have y2 : w4.cell? ⟨qc, 2, none⟩ = some (.int .u64 c2) := hC4.cell 2
          have y3 : w4.cell? ⟨qc, 3, none⟩ = some (.int .u64 c3) := hC4.cell 3
          have y4 : w4.cell? ⟨qc, 4, none⟩ = some (.int .u64 c4) := hC4.cell 4
          have y5 : w4.cell? ⟨qc, 5, none⟩ = some (.int .u64 c5) := hC4.cell 5
          have y6 : w4.cell? ⟨qc, 6, none⟩ = some (.int .u64 c6) := hC4.cell 6
          have y7 : w4.cell? ⟨qc, 7, none⟩ = some (.int .u64 c7) := hC4.cell 7
          have y8 : w4.cell? ⟨qc, 8, none⟩ = some (.int .u64 c8) := hC4.cell 8
          have y9 : w4.cell? ⟨qc, 9, none⟩ = some (.int .u64 s0) := hC4.cell 9
          have y10 : w4.cell? ⟨qc, 10, none⟩ = some (.int .u64 c10) := hC4.cell 10
          have y11 : w4.cell? ⟨qc, 11, none⟩ = some (.int .u64 c11) := hC4.cell 11
          have HL4 := Lib.hid (hL.keep (gr_alloc (gr_refl w4 none) (.cells #[.bool R.isf, .int .i64 R.cause, .int .u64 R.val] 43)))
          have HQ4 := Lib.hid (Row.fresh w4 43 [.bool R.isf, .int .i64 R.cause, .int .u64 R.val])
          clear hT hbt hL hT4 hC4 HL3 HT3 HC3 T1
          go_wp2_with fail
          refine (T2.out _ _ _ HL4.out.mem).mono ?_
          rintro e w5 ⟨rfl, hG⟩
          have hL5 := HL4.out.keep (gr_trans hG (gr_alloc (gr_refl w5 none) (.cells #[.bool R.isf, .int .i64 R.cause, .int .u64 R.val] 43)))
          have hQ5 := HQ4.out.grown hG (by simp)
          have n0 : w5.cell? ⟨w4.heap.size, 0, none⟩ = some (.bool R.isf) := hQ5.cell 0
          have n1' : w5.cell? ⟨w4.heap.size, 1, none⟩ = some (.int .i64 R.cause) := hQ5.cell 1
          have n2 : w5.cell? ⟨w4.heap.size, 2, none⟩ = some (.int .u64 R.val) := hQ5.cell 2
          have lq := hQ5.lt
          have hneq := neq_Fs R.isf R.cause R.val (w5.alloc (.cells #[.bool R.isf, .int .i64 R.cause, .int .u64 R.val] 43))
          have HL5 := Lib.hid hL5
          clear hG hL5 hQ5 HL4 HQ4 T2 KT1 KT20 KT21 KTL KCL y0 y1 y2 y3 y4 y5 y6 y7 y8 y10 y11 y9
          generalize w4.heap.size = q1 at *
          go_wp2_with fail
          go_roundw
          case rel => exact ⟨j + 1, v1, n1, L1, by go_num, by omega, by omega, HL5.out, Z5.out⟩
          case measure => simp [intOf]; omega
      · obtain rfl : j = 40 := by omega
        have hl8 : (L.length : Int) ≤ 8 := by have := hL.row.le; omega
        have HBE := Lib.hid (gr_below hL.gr)
        clear hL hS HS
        go_wp2_with fail
        refine (LN.out _ _ _ _ _ _ HL.out.row).mono ?_
        rintro e w4 ⟨rfl, rfl⟩
        go_wp2_with fail
        go_ret
        exact ⟨tret_boo (by simp [hl8]), HBE.out⟩
    · obtain rfl : j = m2 := by omega
      have hl8 : (L.length : Int) ≤ 8 := by have := hL.row.le; omega
      have HBE := Lib.hid (gr_below hL.gr)
      clear hL hS HS
      go_wp2_with fail
      refine (LN.out _ _ _ _ _ _ HL.out.row).mono ?_
      rintro e w4 ⟨rfl, rfl⟩
      go_wp2_with fail
      go_ret
      exact ⟨tret_boo (by simp [hl8]), HBE.out⟩

theorem own : ownKnob Try.prog.godebug = none := by kernel_rfl
theorem laidOut : laidOutB Try.prog = true := by kernel_rfl

set_option maxRecDepth 100000 in
theorem lifted (os : Os) (started : os.Started) (H : Type) (enc : TypeId × Value → H) :
    ReturnsInHanded {} Try.checked os 3 .any (Rows.tlbWalksSpec.pre6 enc Try.prog Try.f3 Rows.tlbWalksRow.domain false) (Rows.tlbWalksSpec.post enc Try.prog Try.f3 false true false false) := by
  refine returnsInHanded_of_change (C := Try.checked) own started (by kernel_rfl) Try.func3
    (ChangeSpec.witness6 (enc := enc) (C := Try.checked) false ⟨#[], #[.int .i64 0, .agg #[.int .u8 0, .slice none 0 0], .slice none 0 0], []⟩ 8 (by kernel_rfl) (by kernel_rfl) (by kernel_rfl) (by kernel_rfl)) ?_
  intro W base args ds gs before hval0 hW hcnd _
  have hval : ∀ (j : Nat) t v, Try.f3.params[j]? = some t → args[j]? = some v → Value.okWide Try.prog W .any base t v := hval0
  have hW' := hW
  obtain ⟨p, q, hA0, hV, rfl, hfz, hnd⟩ := hW
  have hA : DataW.TrodAll enc Try.prog W 0 (fun _ => true) true Try.f3.params.toList args.toList ds p := hA0
  rw [Try.params3] at hA hval
  obtain ⟨v0, vs0, d0, ds0, p0, q0, hargs, rfl, rfl, h0, r0⟩ := trodAll_cons hA
  obtain ⟨v1, vs1, d1, ds1, p1, q1, rfl, rfl, rfl, h1, r1⟩ := trodAll_cons r0
  obtain ⟨v2, vs2, d2, ds2, p2, q2, rfl, rfl, rfl, h2, r2⟩ := trodAll_cons r1
  obtain ⟨rfl, rfl, rfl⟩ := trodAll_nil r2
  obtain rfl : args = #[v0, v1, v2] := by cases args; simp_all
  obtain ⟨rfl, rfl⟩ := trodVars_none hV
  clear hA0 hval0 hA
  have k0 := h0
  have lt0 : ∀ x ∈ p0, x.block < W.heap.size := by obtain ⟨m, hm⟩ := k0; exact DataW.trod_lt m _ _ _ hm
  obtain ⟨a0, rfl, rfl, rfl, w0⟩ := open_int Try.underlying3 (hval 0 3 v0 rfl rfl) h0
  have k1 := h1
  have lt1 : ∀ x ∈ p1, x.block < W.heap.size := by obtain ⟨m, hm⟩ := k1; exact DataW.trod_lt m _ _ _ hm
  obtain ⟨xs1, rfl, l1, m1, f1⟩ := Op.open_struct Try.underlying24 (hval 1 24 v1 rfl rfl) h1
  rw [show Try.prog.cellsOf 24 = 2 from by kernel_rfl] at l1
  obtain _ | ⟨c1_0, xs1⟩ := xs1
  · simp at l1
  obtain _ | ⟨c1_1, xs1⟩ := xs1
  · simp at l1
  obtain _ | ⟨_, _⟩ := xs1
  rotate_left
  · simp at l1
  clear h1
  obtain ⟨zf1_0, gf1_0⟩ := f1 0 _ rfl
  replace gf1_0 : DataW.trod enc Try.prog W 0 (fun _ => true) true m1 5 [c1_0] = some zf1_0 := gf1_0
  obtain ⟨a1_0, e1_0, _, w1_0⟩ := DataW.trod_int Try.underlying5 gf1_0
  simp at e1_0; subst e1_0
  obtain ⟨zf1_1, gf1_1⟩ := f1 1 _ rfl
  replace gf1_1 : DataW.trod enc Try.prog W 0 (fun _ => true) true m1 22 [c1_1] = some zf1_1 := gf1_1
  obtain ⟨A1_1, n1_1, k1_1, e1_1, mc1_1, cc1_1, raw1_1⟩ := Op.read_items Try.underlying22 Try.underlying59 (by kernel_rfl) (by kernel_rfl) (by decide) gf1_1
  subst e1_1
  have el1_1 : ∀ i, i < n1_1 → ∃ ad, A1_1 = some ad ∧ ad.block < W.heap.size ∧ ∃ (x0 : Int) (x1 : Int), (W.cell? (ad.add (i * 2 + 0)) = some (.int .u32 x0) ∧ (Lit.int .u32 x0).wf = true) ∧ (W.cell? (ad.add (i * 2 + 1)) = some (.int .u64 x1) ∧ (Lit.int .u64 x1).wf = true) := by
    intro i hi
    obtain ⟨ad, hA, hb, n, hf⟩ := raw1_1 i hi
    obtain ⟨u0, yy0, hu0, ht0⟩ := hf 0 _ rfl
    obtain ⟨x0, ee0, _, ww0⟩ := DataW.trod_int Try.underlying38 ht0; simp only [List.cons.injEq, and_true] at ee0; subst ee0
    obtain ⟨u1, yy1, hu1, ht1⟩ := hf 1 _ rfl
    obtain ⟨x1, ee1, _, ww1⟩ := DataW.trod_int Try.underlying33 ht1; simp only [List.cons.injEq, and_true] at ee1; subst ee1
    exact ⟨ad, hA, hb, x0, x1, ⟨hu0, ww0⟩, ⟨hu1, ww1⟩⟩
  have k2 := h2
  have lt2 : ∀ x ∈ p2, x.block < W.heap.size := by obtain ⟨m, hm⟩ := k2; exact DataW.trod_lt m _ _ _ hm
  obtain ⟨A2, m2, c2, rfl, mc2, cc2, raw2⟩ := Op.open_rows (K := 24) Try.underlying25 (by kernel_rfl) (by decide) (hval 2 25 v2 rfl rfl) h2
  have el2 : ∀ i, i < m2 → ∃ ad, A2 = some ad ∧ ad.block < W.heap.size ∧ ∃ (x0 : Int) (x1 : Int) (x2 : Int) (x3 : Int) (x4 : Int) (x5 : Bool) (x6 : Bool) (x7 : Bool) (x8 : Int) (x9 : Int) (x10 : Int) (x11 : Int) (x12 : Int) (x13 : Int) (x14 : Int) (x15 : Int) (x16 : Int) (x17 : Int) (x18 : Int) (x19 : Int) (x20 : Int) (x21 : Int) (x22 : Int) (x23 : Int), (W.cell? (ad.add (i * 24 + 0)) = some (.int .u8 x0) ∧ (Lit.int .u8 x0).wf = true) ∧ (W.cell? (ad.add (i * 24 + 1)) = some (.int .u64 x1) ∧ (Lit.int .u64 x1).wf = true) ∧ (W.cell? (ad.add (i * 24 + 2)) = some (.int .u64 x2) ∧ (Lit.int .u64 x2).wf = true) ∧ (W.cell? (ad.add (i * 24 + 3)) = some (.int .u64 x3) ∧ (Lit.int .u64 x3).wf = true) ∧ (W.cell? (ad.add (i * 24 + 4)) = some (.int .i64 x4) ∧ (Lit.int .i64 x4).wf = true) ∧ (W.cell? (ad.add (i * 24 + 5)) = some (.bool x5)) ∧ (W.cell? (ad.add (i * 24 + 6)) = some (.bool x6)) ∧ (W.cell? (ad.add (i * 24 + 7)) = some (.bool x7)) ∧ (W.cell? (ad.add (i * 24 + 8)) = some (.int .u64 x8) ∧ (Lit.int .u64 x8).wf = true) ∧ (W.cell? (ad.add (i * 24 + 9)) = some (.int .u64 x9) ∧ (Lit.int .u64 x9).wf = true) ∧ (W.cell? (ad.add (i * 24 + 10)) = some (.int .u64 x10) ∧ (Lit.int .u64 x10).wf = true) ∧ (W.cell? (ad.add (i * 24 + 11)) = some (.int .u64 x11) ∧ (Lit.int .u64 x11).wf = true) ∧ (W.cell? (ad.add (i * 24 + 12)) = some (.int .u64 x12) ∧ (Lit.int .u64 x12).wf = true) ∧ (W.cell? (ad.add (i * 24 + 13)) = some (.int .u64 x13) ∧ (Lit.int .u64 x13).wf = true) ∧ (W.cell? (ad.add (i * 24 + 14)) = some (.int .u64 x14) ∧ (Lit.int .u64 x14).wf = true) ∧ (W.cell? (ad.add (i * 24 + 15)) = some (.int .u64 x15) ∧ (Lit.int .u64 x15).wf = true) ∧ (W.cell? (ad.add (i * 24 + 16)) = some (.int .u64 x16) ∧ (Lit.int .u64 x16).wf = true) ∧ (W.cell? (ad.add (i * 24 + 17)) = some (.int .u64 x17) ∧ (Lit.int .u64 x17).wf = true) ∧ (W.cell? (ad.add (i * 24 + 18)) = some (.int .u64 x18) ∧ (Lit.int .u64 x18).wf = true) ∧ (W.cell? (ad.add (i * 24 + 19)) = some (.int .u64 x19) ∧ (Lit.int .u64 x19).wf = true) ∧ (W.cell? (ad.add (i * 24 + 20)) = some (.int .i64 x20) ∧ (Lit.int .i64 x20).wf = true) ∧ (W.cell? (ad.add (i * 24 + 21)) = some (.int .i64 x21) ∧ (Lit.int .i64 x21).wf = true) ∧ (W.cell? (ad.add (i * 24 + 22)) = some (.int .u32 x22) ∧ (Lit.int .u32 x22).wf = true) ∧ (W.cell? (ad.add (i * 24 + 23)) = some (.int .u64 x23) ∧ (Lit.int .u64 x23).wf = true) := by
    intro i hi
    obtain ⟨ad, hA, hb, mm, cs, yy, hl, hcl, ht⟩ := raw2 i hi
    obtain _ | ⟨c_0, cs⟩ := cs
    · simp at hl
    obtain _ | ⟨c_1, cs⟩ := cs
    · simp at hl
    obtain _ | ⟨c_2, cs⟩ := cs
    · simp at hl
    obtain _ | ⟨c_3, cs⟩ := cs
    · simp at hl
    obtain _ | ⟨c_4, cs⟩ := cs
    · simp at hl
    obtain _ | ⟨c_5, cs⟩ := cs
    · simp at hl
    obtain _ | ⟨c_6, cs⟩ := cs
    · simp at hl
    obtain _ | ⟨c_7, cs⟩ := cs
    · simp at hl
    obtain _ | ⟨c_8, cs⟩ := cs
    · simp at hl
    obtain _ | ⟨c_9, cs⟩ := cs
    · simp at hl
    obtain _ | ⟨c_10, cs⟩ := cs
    · simp at hl
    obtain _ | ⟨c_11, cs⟩ := cs
    · simp at hl
    obtain _ | ⟨c_12, cs⟩ := cs
    · simp at hl
    obtain _ | ⟨c_13, cs⟩ := cs
    · simp at hl
    obtain _ | ⟨c_14, cs⟩ := cs
    · simp at hl
    obtain _ | ⟨c_15, cs⟩ := cs
    · simp at hl
    obtain _ | ⟨c_16, cs⟩ := cs
    · simp at hl
    obtain _ | ⟨c_17, cs⟩ := cs
    · simp at hl
    obtain _ | ⟨c_18, cs⟩ := cs
    · simp at hl
    obtain _ | ⟨c_19, cs⟩ := cs
    · simp at hl
    obtain _ | ⟨c_20, cs⟩ := cs
    · simp at hl
    obtain _ | ⟨c_21, cs⟩ := cs
    · simp at hl
    obtain _ | ⟨c_22, cs⟩ := cs
    · simp at hl
    obtain _ | ⟨c_23, cs⟩ := cs
    · simp at hl
    obtain _ | ⟨_, _⟩ := cs
    rotate_left
    · simp at hl
    have hc_0 := hcl 0 (by decide)
    have hc_1 := hcl 1 (by decide)
    have hc_2 := hcl 2 (by decide)
    have hc_3 := hcl 3 (by decide)
    have hc_4 := hcl 4 (by decide)
    have hc_5 := hcl 5 (by decide)
    have hc_6 := hcl 6 (by decide)
    have hc_7 := hcl 7 (by decide)
    have hc_8 := hcl 8 (by decide)
    have hc_9 := hcl 9 (by decide)
    have hc_10 := hcl 10 (by decide)
    have hc_11 := hcl 11 (by decide)
    have hc_12 := hcl 12 (by decide)
    have hc_13 := hcl 13 (by decide)
    have hc_14 := hcl 14 (by decide)
    have hc_15 := hcl 15 (by decide)
    have hc_16 := hcl 16 (by decide)
    have hc_17 := hcl 17 (by decide)
    have hc_18 := hcl 18 (by decide)
    have hc_19 := hcl 19 (by decide)
    have hc_20 := hcl 20 (by decide)
    have hc_21 := hcl 21 (by decide)
    have hc_22 := hcl 22 (by decide)
    have hc_23 := hcl 23 (by decide)
    clear hcl
    simp only [List.getElem?_cons_zero, List.getElem?_cons_succ] at hc_0 hc_1 hc_2 hc_3 hc_4 hc_5 hc_6 hc_7 hc_8 hc_9 hc_10 hc_11 hc_12 hc_13 hc_14 hc_15 hc_16 hc_17 hc_18 hc_19 hc_20 hc_21 hc_22 hc_23
    obtain ⟨mq, fq⟩ := Op.read_struct Try.underlying40 ht
    obtain ⟨zq_0, gq_0⟩ := fq 0 _ rfl
    replace gq_0 : DataW.trod enc Try.prog W 0 (fun _ => true) true mq 5 [c_0] = some zq_0 := gq_0
    obtain ⟨x0, ee0, _, ww0⟩ := DataW.trod_int Try.underlying5 gq_0
    simp at ee0; subst ee0
    obtain ⟨zq_1, gq_1⟩ := fq 1 _ rfl
    replace gq_1 : DataW.trod enc Try.prog W 0 (fun _ => true) true mq 33 [c_1] = some zq_1 := gq_1
    obtain ⟨x1, ee1, _, ww1⟩ := DataW.trod_int Try.underlying33 gq_1
    simp at ee1; subst ee1
    obtain ⟨zq_2, gq_2⟩ := fq 2 _ rfl
    replace gq_2 : DataW.trod enc Try.prog W 0 (fun _ => true) true mq 33 [c_2] = some zq_2 := gq_2
    obtain ⟨x2, ee2, _, ww2⟩ := DataW.trod_int Try.underlying33 gq_2
    simp at ee2; subst ee2
    obtain ⟨zq_3, gq_3⟩ := fq 3 _ rfl
    replace gq_3 : DataW.trod enc Try.prog W 0 (fun _ => true) true mq 35 [c_3, c_4, c_5] = some zq_3 := gq_3
    obtain ⟨mq_3, fq_3⟩ := Op.read_struct Try.underlying35 gq_3
    obtain ⟨zq_3_0, gq_3_0⟩ := fq_3 0 _ rfl
    replace gq_3_0 : DataW.trod enc Try.prog W 0 (fun _ => true) true mq_3 33 [c_3] = some zq_3_0 := gq_3_0
    obtain ⟨x3, ee3, _, ww3⟩ := DataW.trod_int Try.underlying33 gq_3_0
    simp at ee3; subst ee3
    obtain ⟨zq_3_1, gq_3_1⟩ := fq_3 1 _ rfl
    replace gq_3_1 : DataW.trod enc Try.prog W 0 (fun _ => true) true mq_3 3 [c_4] = some zq_3_1 := gq_3_1
    obtain ⟨x4, ee4, _, ww4⟩ := DataW.trod_int Try.underlying3 gq_3_1
    simp at ee4; subst ee4
    obtain ⟨zq_3_2, gq_3_2⟩ := fq_3 2 _ rfl
    replace gq_3_2 : DataW.trod enc Try.prog W 0 (fun _ => true) true mq_3 4 [c_5] = some zq_3_2 := gq_3_2
    obtain ⟨x5, ee5, _⟩ := DataW.trod_bool Try.underlying4 gq_3_2
    simp at ee5; subst ee5
    obtain ⟨zq_4, gq_4⟩ := fq 4 _ rfl
    replace gq_4 : DataW.trod enc Try.prog W 0 (fun _ => true) true mq 4 [c_6] = some zq_4 := gq_4
    obtain ⟨x6, ee6, _⟩ := DataW.trod_bool Try.underlying4 gq_4
    simp at ee6; subst ee6
    obtain ⟨zq_5, gq_5⟩ := fq 5 _ rfl
    replace gq_5 : DataW.trod enc Try.prog W 0 (fun _ => true) true mq 4 [c_7] = some zq_5 := gq_5
    obtain ⟨x7, ee7, _⟩ := DataW.trod_bool Try.underlying4 gq_5
    simp at ee7; subst ee7
    obtain ⟨zq_6, gq_6⟩ := fq 6 _ rfl
    replace gq_6 : DataW.trod enc Try.prog W 0 (fun _ => true) true mq 37 [c_8, c_9, c_10, c_11, c_12, c_13, c_14, c_15, c_16, c_17, c_18, c_19] = some zq_6 := gq_6
    obtain ⟨mq_6, fq_6⟩ := Op.read_struct Try.underlying37 gq_6
    obtain ⟨zq_6_0, gq_6_0⟩ := fq_6 0 _ rfl
    replace gq_6_0 : DataW.trod enc Try.prog W 0 (fun _ => true) true mq_6 33 [c_8] = some zq_6_0 := gq_6_0
    obtain ⟨x8, ee8, _, ww8⟩ := DataW.trod_int Try.underlying33 gq_6_0
    simp at ee8; subst ee8
    obtain ⟨zq_6_1, gq_6_1⟩ := fq_6 1 _ rfl
    replace gq_6_1 : DataW.trod enc Try.prog W 0 (fun _ => true) true mq_6 33 [c_9] = some zq_6_1 := gq_6_1
    obtain ⟨x9, ee9, _, ww9⟩ := DataW.trod_int Try.underlying33 gq_6_1
    simp at ee9; subst ee9
    obtain ⟨zq_6_2, gq_6_2⟩ := fq_6 2 _ rfl
    replace gq_6_2 : DataW.trod enc Try.prog W 0 (fun _ => true) true mq_6 33 [c_10] = some zq_6_2 := gq_6_2
    obtain ⟨x10, ee10, _, ww10⟩ := DataW.trod_int Try.underlying33 gq_6_2
    simp at ee10; subst ee10
    obtain ⟨zq_6_3, gq_6_3⟩ := fq_6 3 _ rfl
    replace gq_6_3 : DataW.trod enc Try.prog W 0 (fun _ => true) true mq_6 33 [c_11] = some zq_6_3 := gq_6_3
    obtain ⟨x11, ee11, _, ww11⟩ := DataW.trod_int Try.underlying33 gq_6_3
    simp at ee11; subst ee11
    obtain ⟨zq_6_4, gq_6_4⟩ := fq_6 4 _ rfl
    replace gq_6_4 : DataW.trod enc Try.prog W 0 (fun _ => true) true mq_6 33 [c_12] = some zq_6_4 := gq_6_4
    obtain ⟨x12, ee12, _, ww12⟩ := DataW.trod_int Try.underlying33 gq_6_4
    simp at ee12; subst ee12
    obtain ⟨zq_6_5, gq_6_5⟩ := fq_6 5 _ rfl
    replace gq_6_5 : DataW.trod enc Try.prog W 0 (fun _ => true) true mq_6 33 [c_13] = some zq_6_5 := gq_6_5
    obtain ⟨x13, ee13, _, ww13⟩ := DataW.trod_int Try.underlying33 gq_6_5
    simp at ee13; subst ee13
    obtain ⟨zq_6_6, gq_6_6⟩ := fq_6 6 _ rfl
    replace gq_6_6 : DataW.trod enc Try.prog W 0 (fun _ => true) true mq_6 33 [c_14] = some zq_6_6 := gq_6_6
    obtain ⟨x14, ee14, _, ww14⟩ := DataW.trod_int Try.underlying33 gq_6_6
    simp at ee14; subst ee14
    obtain ⟨zq_6_7, gq_6_7⟩ := fq_6 7 _ rfl
    replace gq_6_7 : DataW.trod enc Try.prog W 0 (fun _ => true) true mq_6 33 [c_15] = some zq_6_7 := gq_6_7
    obtain ⟨x15, ee15, _, ww15⟩ := DataW.trod_int Try.underlying33 gq_6_7
    simp at ee15; subst ee15
    obtain ⟨zq_6_8, gq_6_8⟩ := fq_6 8 _ rfl
    replace gq_6_8 : DataW.trod enc Try.prog W 0 (fun _ => true) true mq_6 33 [c_16] = some zq_6_8 := gq_6_8
    obtain ⟨x16, ee16, _, ww16⟩ := DataW.trod_int Try.underlying33 gq_6_8
    simp at ee16; subst ee16
    obtain ⟨zq_6_9, gq_6_9⟩ := fq_6 9 _ rfl
    replace gq_6_9 : DataW.trod enc Try.prog W 0 (fun _ => true) true mq_6 33 [c_17] = some zq_6_9 := gq_6_9
    obtain ⟨x17, ee17, _, ww17⟩ := DataW.trod_int Try.underlying33 gq_6_9
    simp at ee17; subst ee17
    obtain ⟨zq_6_10, gq_6_10⟩ := fq_6 10 _ rfl
    replace gq_6_10 : DataW.trod enc Try.prog W 0 (fun _ => true) true mq_6 33 [c_18] = some zq_6_10 := gq_6_10
    obtain ⟨x18, ee18, _, ww18⟩ := DataW.trod_int Try.underlying33 gq_6_10
    simp at ee18; subst ee18
    obtain ⟨zq_6_11, gq_6_11⟩ := fq_6 11 _ rfl
    replace gq_6_11 : DataW.trod enc Try.prog W 0 (fun _ => true) true mq_6 33 [c_19] = some zq_6_11 := gq_6_11
    obtain ⟨x19, ee19, _, ww19⟩ := DataW.trod_int Try.underlying33 gq_6_11
    simp at ee19; subst ee19
    obtain ⟨zq_7, gq_7⟩ := fq 7 _ rfl
    replace gq_7 : DataW.trod enc Try.prog W 0 (fun _ => true) true mq 3 [c_20] = some zq_7 := gq_7
    obtain ⟨x20, ee20, _, ww20⟩ := DataW.trod_int Try.underlying3 gq_7
    simp at ee20; subst ee20
    obtain ⟨zq_8, gq_8⟩ := fq 8 _ rfl
    replace gq_8 : DataW.trod enc Try.prog W 0 (fun _ => true) true mq 3 [c_21] = some zq_8 := gq_8
    obtain ⟨x21, ee21, _, ww21⟩ := DataW.trod_int Try.underlying3 gq_8
    simp at ee21; subst ee21
    obtain ⟨zq_9, gq_9⟩ := fq 9 _ rfl
    replace gq_9 : DataW.trod enc Try.prog W 0 (fun _ => true) true mq 38 [c_22] = some zq_9 := gq_9
    obtain ⟨x22, ee22, _, ww22⟩ := DataW.trod_int Try.underlying38 gq_9
    simp at ee22; subst ee22
    obtain ⟨zq_10, gq_10⟩ := fq 10 _ rfl
    replace gq_10 : DataW.trod enc Try.prog W 0 (fun _ => true) true mq 33 [c_23] = some zq_10 := gq_10
    obtain ⟨x23, ee23, _, ww23⟩ := DataW.trod_int Try.underlying33 gq_10
    simp at ee23; subst ee23
    exact ⟨ad, hA, hb, x0, x1, x2, x3, x4, x5, x6, x7, x8, x9, x10, x11, x12, x13, x14, x15, x16, x17, x18, x19, x20, x21, x22, x23, ⟨hc_0, ww0⟩, ⟨hc_1, ww1⟩, ⟨hc_2, ww2⟩, ⟨hc_3, ww3⟩, ⟨hc_4, ww4⟩, hc_5, hc_6, hc_7, ⟨hc_8, ww8⟩, ⟨hc_9, ww9⟩, ⟨hc_10, ww10⟩, ⟨hc_11, ww11⟩, ⟨hc_12, ww12⟩, ⟨hc_13, ww13⟩, ⟨hc_14, ww14⟩, ⟨hc_15, ww15⟩, ⟨hc_16, ww16⟩, ⟨hc_17, ww17⟩, ⟨hc_18, ww18⟩, ⟨hc_19, ww19⟩, ⟨hc_20, ww20⟩, ⟨hc_21, ww21⟩, ⟨hc_22, ww22⟩, ⟨hc_23, ww23⟩⟩
  refine (walk W a0 w0 a1_0 w1_0 A1_1 n1_1 k1_1 mc1_1 cc1_1 el1_1 A2 m2 c2 mc2 cc2 el2).mono fun e W' ⟨he, bel⟩ => ?_
  subst he
  exact ⟨_, rfl, _, _, _, [], _, [], hW', trodAll_mk1 (shut_bool Try.underlying4 _), (trodAll_cons_mk (Below.trod laidOut (by kernel_rfl) (of_decide_eq_true (by kernel_rfl)) k0 bel lt0) (trodAll_cons_mk (Below.trod laidOut (by kernel_rfl) (of_decide_eq_true (by kernel_rfl)) k1 bel lt1) (trodAll_cons_mk (Below.trod laidOut (by kernel_rfl) (of_decide_eq_true (by kernel_rfl)) k2 bel lt2) trodAll_mk0))), rfl, bel.frame _, fun h => by cases h⟩

theorem over : Rows.tlbWalksRow.holds Try.pinned (OpenSpec.ofChange Rows.tlbWalksSpec) :=
  OpenClaim.holds_of_wide 3 Try.f3 rfl rfl rfl rfl rfl rfl rfl ⟨rfl, rfl, rfl, rfl, rfl⟩ rfl rfl rfl rfl rfl (by kernel_rfl) Try.func3 (by kernel_rfl)
    (of_decide_eq_true (by kernel_rfl)) (by unfold Func.isWrapper; first | (rw [if_pos (by decide +kernel)]; kernel_rfl) | (rw [if_neg (by decide +kernel)]; exact ⟨rfl, rfl⟩))
    (fun os started H enc _ => lifted os started H enc)

/-- The statement. -/
theorem proved : Rows.TlbWalksSaid := over
#print axioms proved

end Go.Proofs.Ytbjjcfocdngaoaa.tlbWalks
