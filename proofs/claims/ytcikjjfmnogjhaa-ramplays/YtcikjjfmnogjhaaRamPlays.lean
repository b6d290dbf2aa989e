/-
  Proved: for any number of pages and any things that are done, the law RamPlays returns true: whatever is read and written, at whatever addresses, is as the document's own answer says, or refused.
  Conditions: none beyond the statement's own.
-/
import Derived.Test.YtcikjjfmnogjhaaRows
import Derived.Test.YtcikjjfmnogjhaaOpen
import Derived.Test.YtcikjjfmnogjhaaOpenS
import Derived.Lib.Hide
import Derived.Deep.QuietTactic
import Derived.BigQuiet
import Derived.StillTailTactics
import Derived.IntWalk
import Derived.Test.YtcikjjfmnogjhaaRamLaw
import Derived.Test.YtcikjjfmnogjhaaRamR
import Derived.Test.YtcikjjfmnogjhaaRamW
namespace Go.Proofs.Ytcikjjfmnogjhaa.ramPlays
open Go Go.ChangeShapes Go.WideShapes Go.ChangeAt Go.RowKit M
set_option linter.unusedVariables false

/-- A call that leaves the world as it is, met in a region that only reads. -/
theorem quietly {P : Program} {f : FuncId} {args : Array Value} {W : World} {v : Value} {Q : World → Prop}
    (h : Calls P f args W fun e w' => e = .returned v ∧ W = w') (hQ : Q W) : Calls P f args W fun e w'' => e = .returned v ∧ Q w'' :=
  h.mono fun _ _ ⟨he, hw⟩ => ⟨he, hw ▸ hQ⟩
/-- How both memories stand: the program's at p, the document's at p', with the same bytes. -/
structure Both (w : World) (L p' g' : Nat) (wr : World) (p g : Nat) (bs : List Int) : Prop where
  one : RAt wr p g bs
  two : QAt wr p' g' bs
  ne : g ≠ g'
  len : bs.length = L
  lo : w.heap.size ≤ g
  lo' : w.heap.size ≤ g'
  bel : Below w.heap.size w wr
theorem Both.keep {w wr ws : World} {L p' g' p g : Nat} {bs : List Int} (h : Both w L p' g' wr p g bs) (hG : wr.grownBy ws none) : Both w L p' g' ws p g bs :=
  ⟨h.one.kept hG, h.two.kept hG, h.ne, h.len, h.lo, h.lo', h.bel.grown hG h.bel.size (by simp)⟩

theorem Both.wrote {w wr ws wt : World} {L p' g' p g : Nat} {bs cs : List Int} (h : Both w L p' g' wr p g bs) (h1 : RAt ws p g cs) (hG : wr.grownBy ws (some g)) (h2 : QAt wt p' g' cs) (hG' : ws.grownBy wt (some g')) (hl : cs.length = bs.length) :
    Both w L p' g' wt p g cs := by
  have e1 : p ≠ g' := h.one.ptr.apart h.two.row (by decide)
  have hb := h.bel.grown hG h.bel.size (by intro k hk; injection hk with hk; rw [← hk]; exact h.lo)
  exact ⟨h1.grown hG' (some_ne e1) (some_ne h.ne), h2, h.ne, hl.trans h.len, h.lo, h.lo', hb.grown hG' hb.size (by intro k hk; injection hk with hk; rw [← hk]; exact h.lo')⟩
theorem Both.two' {w wr ws : World} {L p' g' p g : Nat} {bs : List Int} (h : Both w L p' g' wr p g bs) (hG : wr.grownBy ws (some g)) : QAt ws p' g' bs := by
  have e1 : p' ≠ g := h.two.ptr.apart h.one.row (by decide)
  exact h.two.grown hG (some_ne e1) (some_ne (Ne.symm h.ne))
/-- The program's memory goes on as a clone; the old one is written to. -/
theorem Both.clone {w wr ws wt : World} {L p' g' p g q h : Nat} {bs : List Int} (hB : Both w L p' g' wr p g bs) (h1 : RAt ws q h bs) (hh : h = wr.heap.size) (hG : wr.grownBy ws none) (hG' : ws.grownBy wt (some g)) :
    Both w L p' g' wt q h bs := by
  have hk := hB.keep hG
  have l1 := hB.one.row.lt
  have l2 := hB.two.row.lt
  have l3 := hB.bel.size
  have e1 : q ≠ g := h1.ptr.apart hk.one.row (by decide)
  exact ⟨h1.grown hG' (some_ne e1) (some_ne (by omega)), hk.two' hG', by omega, hB.len, by omega, hB.lo', hk.bel.grown hG' hk.bel.size (by intro k hk; injection hk with hk; rw [← hk]; exact hB.lo)⟩

theorem fld (a : Addr) (i j : Nat) : (⟨(a.add i).block, (a.add i).off + (j + 1), none⟩ : Addr) = a.add (i + (j + 1)) := by
  rw [← add_add]; rfl

set_option maxRecDepth 100000 in
set_option maxHeartbeats 8000000 in
theorem walk (w : World) (a0 : Int) (w0 : (Lit.int .i64 a0).wf = true) (A1 : Option Addr) (m1 c1 : Nat) (mc1 : m1 ≤ c1) (cc1 : c1 ≤ 9223372036854775807) (el1 : ∀ i, i < m1 → ∃ ad, A1 = some ad ∧ ad.block < w.heap.size ∧ ∃ (x0 : Int) (x1 : Int) (x2 : Int) (x3 : Int) (x4 : Option Addr) (n4 k4 : Nat) (z4 : List Int), (w.cell? (ad.add (i * 5 + 0)) = some (.int .u8 x0) ∧ (Lit.int .u8 x0).wf = true) ∧ (w.cell? (ad.add (i * 5 + 1)) = some (.int .u64 x1) ∧ (Lit.int .u64 x1).wf = true) ∧ (w.cell? (ad.add (i * 5 + 2)) = some (.int .i64 x2) ∧ (Lit.int .i64 x2).wf = true) ∧ (w.cell? (ad.add (i * 5 + 3)) = some (.int .u64 x3) ∧ (Lit.int .u64 x3).wf = true) ∧ (w.cell? (ad.add (i * 5 + 4)) = some (.slice x4 n4 k4) ∧ M.Shows w w.heap.size x4 n4 z4 ∧ n4 ≤ k4 ∧ k4 ≤ 9223372036854775807)) :
    Calls Try.prog 3 #[.int .i64 a0, .slice A1 m1 c1] w fun e w' => e = .returned (.bool true) ∧ Below w.heap.size w w' := by
  have h0 := bounds_i64 w0
  clear w0
  by_cases hpg : a0 < 1 ∨ 16 < a0
  · go_enter Try.func3, Try.ntmps3
    go_wp2_with fail
    refine (shown02_c _).mono ?_
    rintro e wa ⟨rfl, hGa⟩
    go_wp2_with fail
    refine (New_no _ h0 hpg _).mono ?_
    rintro e w' ⟨rfl, rfl⟩
    go_wp2_with fail
    refine (rNew_no _ h0 hpg _).mono ?_
    rintro e wb ⟨rfl, hGb⟩
    go_wp2_with fail
    go_ret
    exact ⟨rfl, gr_below (gr_trans hGa hGb)⟩
  · obtain ⟨q, rfl⟩ : ∃ q : Nat, a0 = q := ⟨a0.toNat, by omega⟩
    have hq : 1 ≤ q ∧ q ≤ 16 := by omega
    obtain ⟨L, hL⟩ : ∃ L : Nat, (q : Int) * 4096 = L := ⟨q * 4096, by omega⟩
    have HLQ : Hid (q * 4096 = L) := Lib.hid (by omega)
    have HLd : Hid ((L : Int) / 4096 = q) := Lib.hid (by omega)
    have hLb : 4096 ≤ L ∧ L ≤ 65536 := by omega
    have HEL := Lib.hid el1
    clear hpg el1
    go_enter Try.func3, Try.ntmps3
    go_wp2_with fail
    refine (shown02_c _).mono ?_
    rintro e wa ⟨rfl, hGa⟩
    go_wp2_with fail
    refine (New_yes q hq.1 hq.2 _).mono ?_
    rintro e wb ⟨rfl, hA, hGb⟩
    go_wp2_with fail
    refine (rNew_yes q hq.1 hq.2 _).mono ?_
    rintro e wc ⟨rfl, hQ, hGc⟩
    have hBo : Both w L (wb.heap.size + 1) wb.heap.size wc (wa.heap.size + 1) wa.heap.size (List.replicate (q * 4096) 0) := by
      have h1 := hA.ptr.lt
      have h2 := hGa.size
      exact ⟨hA.kept hGc, hQ, by omega, by rw [List.length_replicate, HLQ.out], by omega, by omega, gr_below (gr_trans (gr_trans hGa hGb) hGc)⟩
    have hszb : w.heap.size ≤ wb.heap.size := hBo.lo'
    clear hA hQ hGa hGb hGc
    go_wp2_with fail
    go_loopw [6, 10] (fun u i wr => ∃ (k p g : Nat) (bs : List Int), k ≤ m1 ∧ k ≤ 40 ∧ i = .int .i64 k ∧ u = .pointer (some ⟨p, 0, none⟩) ∧ Both w L (wb.heap.size + 1) wb.heap.size wr p g bs) (fun _ i _ => 40 - (intOf i).toNat)
    case atStart => exact ⟨0, _, _, _, by omega, by omega, rfl, rfl, hBo⟩
    case round =>
      clear hBo
      obtain ⟨k, p, g, bs, hk, hk40, rfl, rfl, hB⟩ := hrel
      by_cases hlt : k < m1 ∧ k < 40
      · obtain ⟨hk1, hk2⟩ := hlt
        obtain ⟨ad, rfl, hadb, x0, x1, x2, x3, x4, n4, k4, z4, ⟨hu0, ww0⟩, ⟨hu1, ww1⟩, ⟨hu2, ww2⟩, ⟨hu3, ww3⟩, hu4, ss4, aa4, bb4⟩ := HEL.out k hk1
        have hb0 := bounds_u8 ww0
        have hb1 := bounds_u64 ww1
        have hb2 := bounds_i64 ww2
        have hb3 := bounds_u64 ww3
        clear ww0 ww1 ww2 ww3
        have hcb : ∀ j, wr.cell? (ad.add (k * 5 + j)) = w.cell? (ad.add (k * 5 + j)) := fun j => hB.bel.cell (by rw [add_block]; exact hadb)
        rw [← hcb] at hu0 hu1 hu2 hu3 hu4
        rw [Nat.add_zero] at hu0
        rw [← fld] at hu1 hu2 hu3 hu4
        clear hcb
        have hand := and_7 x0 hb0
        have hB1 := hB.keep (gr_alloc (gr_refl wr none) (.cells #[.int .u8 x0, .int .u64 x1, .int .i64 x2, .int .u64 x3, .slice x4 n4 k4] 34))
        have hR1 := Row.fresh wr 34 [.int .u8 x0, .int .u64 x1, .int .i64 x2, .int .u64 x3, .slice x4 n4 k4]
        have hlr := hB.one.row.lt
        have hlr' := hB.two.row.lt
        clear hB
        have HR1 := Lib.hid hR1
        clear hR1
        rcases (show x0 % 8 = 0 ∨ x0 % 8 = 1 ∨ x0 % 8 = 2 ∨ x0 % 8 = 3 ∨ x0 % 8 = 4 ∨ x0 % 8 = 5 ∨ x0 % 8 = 6 ∨ x0 % 8 = 7 from by omega) with h8 | h8 | h8 | h8 | h8 | h8 | h8 | h8
        · go_wp2_with fail
          refine (Get_c _ _ _ _ _ _ hB1.one hb1 hb2).mono ?_
          rintro e w' ⟨rfl, rfl⟩
          go_wp2_with fail
          refine (rGet_c _ _ _ _ _ _ hB1.two hb1 hb2).mono ?_
          rintro e w' ⟨rfl, rfl⟩
          generalize okB bs.length x1 x2 = F
          generalize getV bs x1 x2 = G
          go_wp2_with fail
          go_roundw
          case rel => exact ⟨k + 1, p, g, bs, by omega, by omega, by go_num, rfl, hB1⟩
          case measure => simp [intOf]; omega
        · go_wp2_with fail
          refine (Put_c _ _ _ _ _ _ _ hB1.one hb1 hb2 hb3).mono ?_
          rintro e ws ⟨rfl, hA, hG⟩
          have hR2 := HR1.out.grown hG (some_ne (by omega))
          have o1 := hR2.cell 1
          have o2 := hR2.cell 2
          have o3 := hR2.cell 3
          simp only [List.getElem?_cons_zero, List.getElem?_cons_succ] at o1 o2 o3
          go_wp2_with fail
          refine (rPut_c _ _ _ _ _ _ _ (hB1.two' hG) hb1 hb2 hb3).mono ?_
          rintro e wt ⟨rfl, hA', hG'⟩
          have hB2 := hB1.wrote hA hG hA' hG' (putV_length _ _ _ _)
          generalize okB bs.length x1 x2 = F
          go_wp2_with fail
          go_roundw
          case rel => exact ⟨k + 1, p, g, _, by omega, by omega, by go_num, rfl, hB2⟩
          case measure => simp [intOf]; omega
        · obtain ⟨m, hm⟩ : ∃ m, m = min n4 300 := ⟨_, rfl⟩
          have hS := ss4.short (k := m) (by omega)
          have hadr : 0 < n4 → ∃ ad, x4 = some ad := fun h => by obtain ⟨ad, h, _⟩ := ss4.2.2 h; exact ⟨ad, h⟩
          obtain ⟨zs, hz⟩ : ∃ zs, zs = z4.take m := ⟨_, rfl⟩
          rw [← hz] at hS
          have m300 : m ≤ 300 := by omega
          have HM := Lib.hid hm
          have hS1 := hS.below hB1.bel
          clear hz hm
          go_wp2_with fail
          refine wp_region_still_tail 6 (by kernel_rfl) (by kernel_rfl) ?_
          simp only [List.take_succ_cons, List.take_zero, List.drop_succ_cons, List.drop_zero]
          change wpStill Try.prog _ (World.drew (wr.alloc (.cells #[.int .u8 x0, .int .u64 x1, .int .i64 x2, .int .u64 x3, .slice x4 n4 k4] 34))) _ _ _
          repeat still_step
          still_call ((short_c x4 n4 k4 m _ HM.out hadr aa4 bb4).mono fun _ _ h => ⟨h.1, h.2.symm⟩)
          refine wpStill_nil ?_
          change wpList _ _ _ _ _ (World.drew _)
          go_wp2_with fail
          refine (Load_c p g bs x1 w.heap.size x4 m k4 zs _ hB1.one.drew (by exact hS1) (by omega) hb1).mono ?_
          rintro e ws ⟨rfl, hA, hG⟩
          have hG0 : (wr.alloc (.cells #[.int .u8 x0, .int .u64 x1, .int .i64 x2, .int .u64 x3, .slice x4 n4 k4] 34)).grownBy ws (some g) := ⟨hG.os, hG.tape, hG.output, hG.size, hG.block⟩
          clear hG
          have hR2 := HR1.out.grown hG0 (some_ne (by omega))
          have o1 := hR2.cell 1
          have o4 := hR2.cell 4
          simp only [List.getElem?_cons_zero, List.getElem?_cons_succ] at o1 o4
          have hQ2 := hB1.two' hG0
          have hb2' := hB1.bel.grown hG0 hB1.bel.size (by intro k hk; injection hk with hk; rw [← hk]; exact hB1.lo)
          have hS2 := hS.below hb2'
          have hbs2 := hb2'.size
          have HS2 := Lib.hid hS2
          have HQ2 := Lib.hid hQ2
          go_wp2_with fail
          refine wp_region_still_tail 6 (by kernel_rfl) (by kernel_rfl) ?_
          simp only [List.take_succ_cons, List.take_zero, List.drop_succ_cons, List.drop_zero]
          change wpStill Try.prog _ (World.drew ws) _ _ _
          repeat still_step
          still_call ((short_c x4 n4 k4 m _ HM.out hadr aa4 bb4).mono fun _ _ h => ⟨h.1, h.2.symm⟩)
          refine wpStill_nil ?_
          change wpList _ _ _ _ _ (World.drew _)
          go_wp2_with fail
          refine (rLoad_c (wb.heap.size + 1) wb.heap.size bs x1 w.heap.size x4 m k4 zs _ HQ2.out.drew (by exact HS2.out) hszb (by exact hbs2) (by omega) hb1).mono ?_
          rintro e wt ⟨rfl, hA', hG'⟩
          have hG2 : ws.grownBy wt (some wb.heap.size) := ⟨hG'.os, hG'.tape, hG'.output, hG'.size, hG'.block⟩
          have hB2 := hB1.wrote hA hG0 hA' hG2 (loadV_length _ _ _)
          clear hG' hG2 hA' hA hG0
          go_wp2_with fail
          go_roundw
          case rel => exact ⟨k + 1, p, g, _, by omega, by omega, by go_num, rfl, hB2⟩
          case measure => simp [intOf]; omega
        · by_cases hh : hasB bs.length x1 x2 = true
          · go_wp2_with fail
            refine (Bytes_yes _ _ _ _ _ _ hB1.one hb1 hh).mono ?_
            obtain ⟨X, hX⟩ : ∃ X, X = (bs.drop (offV x1)).take x2.toNat := ⟨_, rfl⟩
            have hXb : Byt X := by rw [hX]; exact take_byt (drop_byt hB1.one.byt _) _
            rw [← hX]
            rintro e ws ⟨rfl, hO, hG⟩
            have hB2 := hB1.keep hG
            have hR2 := HR1.out.grown hG (by simp)
            have o1 := hR2.cell 1
            have o2 := hR2.cell 2
            simp only [List.getElem?_cons_zero, List.getElem?_cons_succ] at o1 o2
            have hX2 := rBytes_yes _ _ _ _ _ _ hB2.two hb1 hh
            rw [← hX] at hX2
            have HX2 := Lib.hid hX2
            clear hX hX2
            go_wp2_with fail
            refine HX2.out.mono ?_
            rintro e wt ⟨A, c, rfl, hSh, hG'⟩
            have hB3 := hB2.keep hG'
            have hT1 : (convert 32 9 (.slice (some ⟨wr.heap.size + 1, 0, none⟩) X.length X.length)).run Try.prog wt = .ok (.string (strOfNums X)) wt := by
              have := ((hO.grown hG' (by simp)).shows hXb).text (P := Try.prog) 32 5 9 X.length Try.underlying32 Try.underlying5 Try.underlying9
              simpa using this
            have hT2 := hSh.text (P := Try.prog) 32 5 9 c Try.underlying32 Try.underlying5 Try.underlying9
            clear o1 o2
            go_wp2_with fail
            go_roundw
            case rel => exact ⟨k + 1, p, g, bs, by omega, by omega, by go_num, rfl, hB3⟩
            case measure => simp [intOf]; omega
          · have hh : hasB bs.length x1 x2 = false := by simpa using hh
            have hT := fun W : World => run_convert_bytes_nil (P := Try.prog) W 32 5 Try.underlying32 Try.underlying5 0 0 9 Try.underlying9
            go_wp2_with fail
            refine (Bytes_no _ _ _ _ _ _ hB1.one hb1 hb2 hh).mono ?_
            rintro e w' ⟨rfl, rfl⟩
            go_wp2_with fail
            refine (rBytes_no _ _ _ _ _ _ hB1.two hb1 hb2 hh).mono ?_
            rintro e w' ⟨rfl, rfl⟩
            go_wp2_with fail
            go_roundw
            case rel => exact ⟨k + 1, p, g, bs, by omega, by omega, by go_num, rfl, hB1⟩
            case measure => simp [intOf]; omega
        · go_wp2_with fail
          refine (Has_c _ _ _ _ _ _ hB1.one hb1 hb2).mono ?_
          rintro e w' ⟨rfl, rfl⟩
          go_wp2_with fail
          refine (rHas_c _ _ _ _ _ _ hB1.two hb1 hb2).mono ?_
          rintro e w' ⟨rfl, rfl⟩
          generalize hasB bs.length x1 x2 = F
          go_wp2_with fail
          go_roundw
          case rel => exact ⟨k + 1, p, g, bs, by omega, by omega, by go_num, rfl, hB1⟩
          case measure => simp [intOf]; omega
        · go_wp2_with fail
          refine (Clone_c _ _ _ _ hB1.one).mono ?_
          rintro e ws ⟨rfl, hC, hG⟩
          go_wp2_with fail
          refine (Put_c _ _ bs _ 8 77 _ (hB1.one.kept hG) (by omega) (by omega) (by omega)).mono ?_
          rintro e wt ⟨rfl, hA, hG'⟩
          have hB2 : Both w L (wb.heap.size + 1) wb.heap.size wt (wr.heap.size + 1 + 1) (wr.heap.size + 1) bs := by simpa using hB1.clone hC rfl hG hG'
          go_wp2_with fail
          go_roundw
          case rel => exact ⟨k + 1, _, _, _, by omega, by omega, by go_num, rfl, hB2⟩
          case measure => simp [intOf]; omega
        · go_wp2_with fail
          go_roundw
          case rel => exact ⟨k + 1, p, g, bs, by omega, by omega, by go_num, rfl, hB1⟩
          case measure => simp [intOf]; omega
        · go_wp2_with fail
          go_roundw
          case rel => exact ⟨k + 1, p, g, bs, by omega, by omega, by go_num, rfl, hB1⟩
          case measure => simp [intOf]; omega
      · have hd1 : decide (k < m1) = false ∨ decide (k < m1) = true ∧ decide ((k : Int) < 40) = false := by
          by_cases h1 : k < m1
          · exact .inr ⟨decide_eq_true h1, decide_eq_false (by omega)⟩
          · exact .inl (decide_eq_false h1)
        have HALL : Hid (hasB bs.length 2147483648 (L : Int) = true) := Lib.hid (by rw [hB.len]; exact has_all L)
        have HWH : Hid ((bs.drop (offV 2147483648)).take (L : Int).toNat = bs) := Lib.hid (by have := part_all bs; rwa [hB.len] at this)
        have HL := Lib.hid hB.len
        clear HEL hlt
        rcases hd1 with hd1 | ⟨hd1, hd2⟩
        all_goals
          go_wp2_with fail
          refine (Bytes_yes _ _ bs _ _ _ hB.one (by omega) HALL.out).mono ?_
          rw [HWH.out]
          rintro e ws ⟨rfl, hO, hG⟩
          rw [HL.out]
          have hB2 := hB.keep hG
          have hhd := hB2.two.head
          rw [HL.out] at hhd
          have hT1 : ∀ d, (convert 32 9 (.slice (some ⟨wr.heap.size, 0, none⟩) L L)).run Try.prog (ws.drewN d) = .ok (.string (strOfNums bs)) (ws.drewN d) := by
            intro d
            have hsh : Shows (ws.drewN d) _ _ _ _ := hO.shows hB2.one.byt
            have := hsh.text (P := Try.prog) 32 5 9 L Try.underlying32 Try.underlying5 Try.underlying9
            rwa [HL.out] at this
          have hT2 : ∀ d, (convert 32 9 (.slice (some ⟨wb.heap.size, 0, none⟩) L L)).run Try.prog (ws.drewN d) = .ok (.string (strOfNums bs)) (ws.drewN d) := by
            intro d
            have hsh : Shows (ws.drewN d) _ _ _ _ := hB2.two.row.shows hB2.one.byt
            have := hsh.text (P := Try.prog) 32 5 9 L Try.underlying32 Try.underlying5 Try.underlying9
            rwa [HL.out] at this
          have hPg : ∀ d, Calls Try.prog 22 #[.pointer (some ⟨p, 0, none⟩)] (ws.drewN d) fun e w' => e = .returned (.int .i64 q) ∧ ws.drewN d = w' := by
            intro d
            have := Pages_c p g bs (ws.drewN d) (hB2.one.drewN d)
            rwa [HL.out, HLd.out] at this
          have HPG := Lib.hid hPg
          clear hPg
          go_wp2_with fail
          go_quiet ((go_at_call 22; exact quietly (HPG.out _) ⟨_, rfl⟩))
          go_wp2_with fail
          go_ret
          exact ⟨rfl, below_drewN hB2.bel _⟩

theorem own : ownKnob Try.prog.godebug = none := by kernel_rfl
theorem laidOut : laidOutB Try.prog = true := by kernel_rfl

set_option maxRecDepth 100000 in
theorem lifted (os : Os) (started : os.Started) (H : Type) (enc : TypeId × Value → H) :
    ReturnsInHanded {} Try.checked os 3 .any (Rows.ramPlaysSpec.pre6 enc Try.prog Try.f3 Rows.ramPlaysRow.domain false) (Rows.ramPlaysSpec.post enc Try.prog Try.f3 false true false false) := by
  refine returnsInHanded_of_change (C := Try.checked) own started (by kernel_rfl) Try.func3
    (ChangeSpec.witness6 (enc := enc) (C := Try.checked) false ⟨#[], #[.int .i64 0, .slice none 0 0], []⟩ 8 (by kernel_rfl) (by kernel_rfl) (by kernel_rfl) (by kernel_rfl)) ?_
  intro W base args ds gs before hval0 hW hcnd _
  have hval : ∀ (j : Nat) t v, Try.f3.params[j]? = some t → args[j]? = some v → Value.okWide Try.prog W .any base t v := hval0
  have hW' := hW
  obtain ⟨p, q, hA0, hV, rfl, hfz, hnd⟩ := hW
  have hA : DataW.TrodAll enc Try.prog W 0 (fun _ => true) true Try.f3.params.toList args.toList ds p := hA0
  rw [Try.params3] at hA hval
  obtain ⟨v0, vs0, d0, ds0, p0, q0, hargs, rfl, rfl, h0, r0⟩ := trodAll_cons hA
  obtain ⟨v1, vs1, d1, ds1, p1, q1, rfl, rfl, rfl, h1, r1⟩ := trodAll_cons r0
  obtain ⟨rfl, rfl, rfl⟩ := trodAll_nil r1
  obtain rfl : args = #[v0, v1] := by cases args; simp_all
  obtain ⟨rfl, rfl⟩ := trodVars_none hV
  clear hA0 hval0 hA
  have k0 := h0
  have lt0 : ∀ x ∈ p0, x.block < W.heap.size := by obtain ⟨m, hm⟩ := k0; exact DataW.trod_lt m _ _ _ hm
  obtain ⟨a0, rfl, rfl, rfl, w0⟩ := open_int Try.underlying3 (hval 0 3 v0 rfl rfl) h0
  have k1 := h1
  have lt1 : ∀ x ∈ p1, x.block < W.heap.size := by obtain ⟨m, hm⟩ := k1; exact DataW.trod_lt m _ _ _ hm
  obtain ⟨A1, m1, c1, rfl, mc1, cc1, raw1⟩ := Op.open_items Try.underlying22 Try.underlying34 (by kernel_rfl) (by kernel_rfl) (by decide) (hval 1 22 v1 rfl rfl) h1
  have el1 : ∀ i, i < m1 → ∃ ad, A1 = some ad ∧ ad.block < W.heap.size ∧ ∃ (x0 : Int) (x1 : Int) (x2 : Int) (x3 : Int) (x4 : Option Addr) (n4 k4 : Nat) (z4 : List Int), (W.cell? (ad.add (i * 5 + 0)) = some (.int .u8 x0) ∧ (Lit.int .u8 x0).wf = true) ∧ (W.cell? (ad.add (i * 5 + 1)) = some (.int .u64 x1) ∧ (Lit.int .u64 x1).wf = true) ∧ (W.cell? (ad.add (i * 5 + 2)) = some (.int .i64 x2) ∧ (Lit.int .i64 x2).wf = true) ∧ (W.cell? (ad.add (i * 5 + 3)) = some (.int .u64 x3) ∧ (Lit.int .u64 x3).wf = true) ∧ (W.cell? (ad.add (i * 5 + 4)) = some (.slice x4 n4 k4) ∧ M.Shows W W.heap.size x4 n4 z4 ∧ n4 ≤ k4 ∧ k4 ≤ 9223372036854775807) := by
    intro i hi
    obtain ⟨ad, hA, hb, n, hf⟩ := raw1 i hi
    obtain ⟨u0, yy0, hu0, ht0⟩ := hf 0 _ rfl
    obtain ⟨x0, ee0, _, ww0⟩ := DataW.trod_int Try.underlying5 ht0; simp only [List.cons.injEq, and_true] at ee0; subst ee0
    obtain ⟨u1, yy1, hu1, ht1⟩ := hf 1 _ rfl
    obtain ⟨x1, ee1, _, ww1⟩ := DataW.trod_int Try.underlying31 ht1; simp only [List.cons.injEq, and_true] at ee1; subst ee1
    obtain ⟨u2, yy2, hu2, ht2⟩ := hf 2 _ rfl
    obtain ⟨x2, ee2, _, ww2⟩ := DataW.trod_int Try.underlying3 ht2; simp only [List.cons.injEq, and_true] at ee2; subst ee2
    obtain ⟨u3, yy3, hu3, ht3⟩ := hf 3 _ rfl
    obtain ⟨x3, ee3, _, ww3⟩ := DataW.trod_int Try.underlying31 ht3; simp only [List.cons.injEq, and_true] at ee3; subst ee3
    obtain ⟨u4, yy4, hu4, ht4⟩ := hf 4 _ rfl
    obtain ⟨x4, n4, k4, z4, rfl, ss4, aa4, bb4⟩ := M.read_bytes Try.underlying32 Try.underlying5 (by kernel_rfl) ht4
    exact ⟨ad, hA, hb, x0, x1, x2, x3, x4, n4, k4, z4, ⟨hu0, ww0⟩, ⟨hu1, ww1⟩, ⟨hu2, ww2⟩, ⟨hu3, ww3⟩, ⟨hu4, ss4, aa4, bb4⟩⟩
  refine (walk W a0 w0 A1 m1 c1 mc1 cc1 el1).mono fun e W' ⟨he, bel⟩ => ?_
  subst he
  exact ⟨_, rfl, _, _, _, [], _, [], hW', trodAll_mk1 (shut_bool Try.underlying4 _), (trodAll_cons_mk (Below.trod laidOut (by kernel_rfl) (of_decide_eq_true (by kernel_rfl)) k0 bel lt0) (trodAll_cons_mk (Below.trod laidOut (by kernel_rfl) (of_decide_eq_true (by kernel_rfl)) k1 bel lt1) trodAll_mk0)), rfl, bel.frame _, fun h => by cases h⟩

theorem over : Rows.ramPlaysRow.holds Try.pinned (OpenSpec.ofChange Rows.ramPlaysSpec) :=
  OpenClaim.holds_of_wide 3 Try.f3 rfl rfl rfl rfl rfl rfl rfl ⟨rfl, rfl, rfl, rfl, rfl⟩ rfl rfl rfl rfl rfl (by kernel_rfl) Try.func3 (by kernel_rfl)
    (of_decide_eq_true (by kernel_rfl)) (by unfold Func.isWrapper; first | (rw [if_pos (by decide +kernel)]; kernel_rfl) | (rw [if_neg (by decide +kernel)]; exact ⟨rfl, rfl⟩))
    (fun os started H enc _ => lifted os started H enc)

/-- The statement. -/
theorem proved : Rows.RamPlaysSaid := over
#print axioms proved

end Go.Proofs.Ytcikjjfmnogjhaa.ramPlays
