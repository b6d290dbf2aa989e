/-
  Proved: for any things that are done, the law AmoPlays returns true: whatever is reserved, taken, and stored, by whichever harts, the reservations are the document's own.
  Conditions: none beyond the statement's own (its listed variable is tied to the program's text).
-/
import Derived.Test.YtaanmebebapbpaaDoorRows
import Derived.Test.YtaanmebebapbpaaDoorCards
import Derived.Test.YtaanmebebapbpaaDoorTie
import Derived.Test.YtaanmebebapbpaaDoorOpen
import Derived.Test.YtaanmebebapbpaaDoorOpenS
import Derived.Lib.Hide
import Derived.SevenTiedAt
import Derived.Deep.RegionHeld3
import Derived.BigQuiet
import Derived.IntWalk
import Derived.Test.YtaanmebebapbpaaDoorAmoDoor
import Derived.Test.YtaanmebebapbpaaDoorAmoLaw
import Derived.Test.YtaanmebebapbpaaDoorAmoY
import Derived.Test.YtaanmebebapbpaaDoorAmoQ4
namespace Go.Proofs.YtaanmebebapbpaaDoor.amoPlays
open Go Go.ChangeShapes Go.WideShapes Go.ChangeAt Go.RowKit W M D A
set_option linter.unusedVariables false

theorem and_3 (x : Int) (h : 0 ≤ x ∧ x ≤ 255) : bits .and .u8 x 3 = x % 4 := by
  obtain ⟨n, rfl⟩ : ∃ n : Nat, x = n := ⟨x.toNat, by omega⟩
  have hn : n < 256 := by omega
  have : ∀ m : Nat, m < 256 → bits .and .u8 (m : Int) 3 = (m : Int) % 4 := by decide +kernel
  exact this n hn
/-- How both rows stand: the program's at p, the document's at q. -/
structure Both (w : World) (q : Nat) (wr : World) (p : Nat) (s r : St) : Prop where
  one : RAt wr p s
  two : QAt wr q r
  ag : Agree s r
  lo : w.heap.size ≤ p
  lo' : w.heap.size ≤ q
  bel : Below w.heap.size w wr
theorem Both.ne {w wr : World} {q p : Nat} {s r : St} (h : Both w q wr p s r) : p ≠ q := h.one.row.apart h.two.row (by decide)
theorem Both.keep {w wr ws : World} {q p : Nat} {s r : St} (h : Both w q wr p s r) (hG : wr.grownBy ws none) : Both w q ws p s r :=
  ⟨h.one.kept hG, h.two.kept hG, h.ag, h.lo, h.lo', h.bel.grown hG h.bel.size (by simp)⟩
theorem Both.wrote {w wr ws wt : World} {q p : Nat} {s r s' r' : St} (h : Both w q wr p s r) (h1 : RAt ws p s') (hG : wr.grownBy ws (some p)) (h2 : QAt wt q r') (hG' : ws.grownBy wt (some q)) (hA : Agree s' r') : Both w q wt p s' r' := by
  have hb := h.bel.grown hG h.bel.size (by intro k hk; injection hk with hk; rw [← hk]; exact h.lo)
  exact ⟨h1.grown hG' (some_ne h.ne), h2, hA, h.lo, h.lo', hb.grown hG' hb.size (by intro k hk; injection hk with hk; rw [← hk]; exact h.lo')⟩
theorem Both.two' {w wr ws : World} {q p : Nat} {s r : St} (h : Both w q wr p s r) (hG : wr.grownBy ws (some p)) : QAt ws q r := h.two.grown hG (some_ne (Ne.symm h.ne))
/-- The program's row goes on as a clone; the old one is written to. -/
theorem Both.clone {w wr ws wt : World} {q p c : Nat} {s r : St} (h : Both w q wr p s r) (h1 : RAt ws c s) (hc : c = wr.heap.size) (hG : wr.grownBy ws none) (hG' : ws.grownBy wt (some p)) : Both w q wt c s r := by
  have hk := h.keep hG
  have l1 := h.one.row.lt
  have l2 := h.bel.size
  exact ⟨h1.grown hG' (some_ne (by omega)), hk.two' hG', h.ag, by omega, h.lo', hk.bel.grown hG' hk.bel.size (by intro k hk; injection hk with hk; rw [← hk]; exact h.lo)⟩
theorem Has_no (p : Nat) (s : St) (h : Int) (hh : I64 h) (hn : isH h = false) (w : World) (hR : RAt w p s) :
    Calls Tryd.prog 26 #[.pointer (some ⟨p, 0, none⟩), .int .i64 h] w fun e w' => e = .returned (.tuple #[.int .u64 0, .bool false]) ∧ w.grownBy w' none := by
  have := Has_c p s h hh w hR
  rw [hn] at this
  simpa using this
theorem rStored_no (p : Nat) (r : St) (h a n : Int) (hh : I64 h) (hn : isH h = false) (w : World) (hR : QAt w p r) :
    Calls Tryd.prog 22 #[.pointer (some ⟨p, 0, none⟩), .int .i64 h, .int .u64 a, .int .i64 n] w fun e w' => e = .returned (.tuple #[]) ∧ w = w' := by
  have HH := Lib.hid (fun W => known_c h hh W)
  rw [hn] at HH
  go_enter Tryd.func22, Tryd.ntmps22
  go_wp2_with fail
  refine (HH.out _).mono ?_
  rintro e w' ⟨rfl, rfl⟩
  go_wp2_with fail
  first | go_end0 | refine bodyPost_ret (results_none rfl _ _ _) rfl ?_
  exact ⟨rfl, rfl⟩
theorem add_add (a : Addr) (i j : Nat) : (a.add i).add j = a.add (i + j) := Deep.add_add a i j
theorem fld (a : Addr) (i j : Nat) : (⟨(a.add i).block, (a.add i).off + (j + 1), none⟩ : Addr) = a.add (i + (j + 1)) := by
  rw [← add_add]; rfl

set_option maxRecDepth 100000 in
set_option maxHeartbeats 8000000 in
theorem walk (w : World) (hL : Tbl w) (A0 : Option Addr) (m0 c0 : Nat) (mc0 : m0 ≤ c0) (cc0 : c0 ≤ 9223372036854775807) (el0 : ∀ i, i < m0 → ∃ ad, A0 = some ad ∧ ad.block < w.heap.size ∧ ∃ (x0 : Int) (x1 : Int) (x2 : Int) (x3 : Int), (w.cell? (ad.add (i * 4 + 0)) = some (.int .u8 x0) ∧ (Lit.int .u8 x0).wf = true) ∧ (w.cell? (ad.add (i * 4 + 1)) = some (.int .i64 x1) ∧ (Lit.int .i64 x1).wf = true) ∧ (w.cell? (ad.add (i * 4 + 2)) = some (.int .u64 x2) ∧ (Lit.int .u64 x2).wf = true) ∧ (w.cell? (ad.add (i * 4 + 3)) = some (.int .i64 x3) ∧ (Lit.int .i64 x3).wf = true)) :
    Calls Tryd.prog 4 #[.slice A0 m0 c0] w fun e w' => e = .returned (.bool true) ∧ Below w.heap.size w w' := by
  have HEL := Lib.hid el0
  clear el0
  have L0 := Lib.hid hL
  clear hL
  go_enter Tryd.func4, Tryd.ntmps4
  go_wp2_with fail
  refine (shown08_c _ L0.out).mono ?_
  rintro e w1 ⟨rfl, g1⟩
  go_wp2_with fail
  refine (Fresh_c _).mono ?_
  rintro e w2 ⟨rfl, hR2, g2⟩
  have hBo : Both w w2.heap.size (w2.alloc (.cells (cq st0).toArray 35)) w1.heap.size st0 st0 := by
    have gz := gr_alloc (gr_refl w2 none) (.cells (cq st0).toArray 35)
    have s1 := g1.size
    have s2 := g2.size
    exact ⟨hR2.kept gz, ⟨Row.fresh w2 _ _, rfl, good0.bd⟩, agree0, s1, by omega, gr_below (gr_trans (gr_trans g1 g2) gz)⟩
  clear hR2 g1 g2 L0
  go_wp2_with fail
  have hBo' : Both w w2.heap.size (w2.alloc (.cells #[.bool false, .bool false, .bool false, .bool false, .bool false, .bool false, .bool false, .bool false, .int .u64 0, .int .u64 0, .int .u64 0, .int .u64 0, .int .u64 0, .int .u64 0, .int .u64 0, .int .u64 0] 35)) w1.heap.size st0 st0 := hBo
  clear hBo
  generalize w2.alloc (.cells #[.bool false, .bool false, .bool false, .bool false, .bool false, .bool false, .bool false, .bool false, .int .u64 0, .int .u64 0, .int .u64 0, .int .u64 0, .int .u64 0, .int .u64 0, .int .u64 0, .int .u64 0] 35) = V at *
  generalize w2.heap.size = q at *
  generalize w1.heap.size = p0 at *
  go_loopw [4, 6] (fun u i wr => ∃ (k p : Nat) (s r : St), k ≤ m0 ∧ k ≤ 60 ∧ i = .int .i64 k ∧ u = .pointer (some ⟨p, 0, none⟩) ∧ Both w q wr p s r) (fun _ i _ => 60 - (intOf i).toNat)
  case atStart => exact ⟨0, _, _, _, by omega, by omega, rfl, rfl, hBo'⟩
  case round =>
    clear hBo'
    obtain ⟨k, p, s, r, hk, hk60, rfl, rfl, hB⟩ := hrel
    by_cases hlt : k < m0 ∧ k < 60
    · obtain ⟨hk1, hk2⟩ := hlt
      obtain ⟨ad, rfl, hadb, x0, x1, x2, x3, ⟨hu0, ww0⟩, ⟨hu1, ww1⟩, ⟨hu2, ww2⟩, hu3, ww3⟩ := HEL.out k hk1
      have hb0 := bounds_u8 ww0
      have hb1 : I64 x1 := bounds_i64 ww1
      have hb2 : B64 x2 := bounds_u64 ww2
      have hb3 : I64 x3 := bounds_i64 ww3
      clear ww0 ww1 ww2 ww3
      have hcb : ∀ j, wr.cell? (ad.add (k * 4 + j)) = w.cell? (ad.add (k * 4 + j)) := fun j => hB.bel.cell (by rw [add_block]; exact hadb)
      rw [← hcb] at hu0 hu1 hu2 hu3
      rw [Nat.add_zero] at hu0
      rw [← fld] at hu1 hu2 hu3
      clear hcb
      have hand := and_3 x0 hb0
      have hB1 := hB.keep (gr_alloc (gr_refl wr none) (.cells #[.int .u8 x0, .int .i64 x1, .int .u64 x2, .int .i64 x3] 37))
      have hR1 := Row.fresh wr 37 [.int .u8 x0, .int .i64 x1, .int .u64 x2, .int .i64 x3]
      have l1 := hB.one.row.lt
      have l2 := hB.two.row.lt
      have HR1 := Lib.hid hR1
      have HG1 := Lib.hid hB1.one.good
      have HL1 := Lib.hid hB1.two.len
      clear hR1 hB
      rcases (show x0 % 4 = 0 ∨ x0 % 4 = 1 ∨ x0 % 4 = 2 ∨ x0 % 4 = 3 from by omega) with h4 | h4 | h4 | h4
      · go_wp2_with fail
        refine (Set_c p s x1 x2 hb1 hb2 _ hB1.one).mono ?_
        rintro e ws ⟨rfl, hA, hG⟩
        have hR2 := HR1.out.grown hG (some_ne (by omega))
        have o1 := hR2.cell 1
        have o2 := hR2.cell 2
        have o3 := hR2.cell 3
        simp only [List.getElem?_cons_zero, List.getElem?_cons_succ] at o1 o2 o3
        go_wp2_with fail
        refine (rSet_c q r x1 x2 hb1 hb2 _ (hB1.two' hG)).mono ?_
        rintro e wt ⟨rfl, hA', hG'⟩
        have hB2 := hB1.wrote hA hG hA' hG' (hB1.ag.set HG1.out.len HL1.out x1 x2)
        clear o1 o2 o3 hR2 hA hG hA' hG' hB1
        have hB9 := hB2
        generalize hS9 : setS s x1 x2 = s9 at *
        generalize hR9 : rsetS r x1 x2 = r9 at *
        clear hS9 hR9
        go_wp2_with fail
        refine (all_c p s9 _ hB9.one).mono ?_
        rintro e wa ⟨rfl, ga⟩
        have hBa := hB9.keep ga
        have hBb := hBa.keep (gr_alloc (gr_alloc (gr_refl wa none) (.cells #[.bool (isS s9 0), .bool (isS s9 1), .bool (isS s9 2), .bool (isS s9 3), .bool (isS s9 4), .bool (isS s9 5), .bool (isS s9 6), .bool (isS s9 7)] 32)) (.cells #[.int .u64 (atS s9 0), .int .u64 (atS s9 1), .int .u64 (atS s9 2), .int .u64 (atS s9 3), .int .u64 (atS s9 4), .int .u64 (atS s9 5), .int .u64 (atS s9 6), .int .u64 (atS s9 7)] 33))
        clear ga hBa hB9
        go_wp2_with fail
        refine (Same_c q s9 r9 hBb.ag _ hBb.two).mono ?_
        rintro e wb ⟨rfl, gb⟩
        have hBc := hBb.keep gb
        clear gb hBb
        go_wp2_with fail
        refine (Has_no p s9 (-1) (by decide) (by decide) _ hBc.one).mono ?_
        rintro e wc ⟨rfl, gc⟩
        have hBd := hBc.keep gc
        clear gc hBc
        go_wp2_with fail
        refine (Has_no p s9 8 (by decide) (by decide) _ hBd.one).mono ?_
        rintro e wd ⟨rfl, gd⟩
        have hBe := hBd.keep gd
        clear gd hBd
        go_wp2_with fail
        go_roundw
        case rel => exact ⟨k + 1, _, _, _, by omega, by omega, by go_num, rfl, hBe⟩
        case measure => simp [intOf]; omega
      · go_wp2_with fail
        refine (Take_c p s x1 x2 hb1 hb2 _ hB1.one).mono ?_
        rintro e ws ⟨rfl, hA, hG⟩
        have hR2 := HR1.out.grown hG (some_ne (by omega))
        have o1 := hR2.cell 1
        have o2 := hR2.cell 2
        have o3 := hR2.cell 3
        simp only [List.getElem?_cons_zero, List.getElem?_cons_succ] at o1 o2 o3
        have HT := Lib.hid (hB1.ag.take x1 x2)
        go_wp2_with fail
        refine (rTake_c q r x1 x2 hb1 hb2 _ (hB1.two' hG)).mono ?_
        rw [HT.out]
        rintro e wt ⟨rfl, hA', hG'⟩
        have hB2 := hB1.wrote hA hG hA' hG' (hB1.ag.took HG1.out.len HL1.out x1)
        clear o1 o2 o3 hR2 hA hG hA' hG' hB1
        clear HT
        generalize takeS s x1 x2 = tk at *
        have hB9 := hB2
        generalize hS9 : tookS s x1 = s9 at *
        generalize hR9 : rtookS r x1 = r9 at *
        clear hS9 hR9
        go_wp2_with fail
        refine (all_c p s9 _ hB9.one).mono ?_
        rintro e wa ⟨rfl, ga⟩
        have hBa := hB9.keep ga
        have hBb := hBa.keep (gr_alloc (gr_alloc (gr_refl wa none) (.cells #[.bool (isS s9 0), .bool (isS s9 1), .bool (isS s9 2), .bool (isS s9 3), .bool (isS s9 4), .bool (isS s9 5), .bool (isS s9 6), .bool (isS s9 7)] 32)) (.cells #[.int .u64 (atS s9 0), .int .u64 (atS s9 1), .int .u64 (atS s9 2), .int .u64 (atS s9 3), .int .u64 (atS s9 4), .int .u64 (atS s9 5), .int .u64 (atS s9 6), .int .u64 (atS s9 7)] 33))
        clear ga hBa hB9
        go_wp2_with fail
        refine (Same_c q s9 r9 hBb.ag _ hBb.two).mono ?_
        rintro e wb ⟨rfl, gb⟩
        have hBc := hBb.keep gb
        clear gb hBb
        go_wp2_with fail
        refine (Has_no p s9 (-1) (by decide) (by decide) _ hBc.one).mono ?_
        rintro e wc ⟨rfl, gc⟩
        have hBd := hBc.keep gc
        clear gc hBc
        go_wp2_with fail
        refine (Has_no p s9 8 (by decide) (by decide) _ hBd.one).mono ?_
        rintro e wd ⟨rfl, gd⟩
        have hBe := hBd.keep gd
        clear gd hBd
        go_wp2_with fail
        go_roundw
        case rel => exact ⟨k + 1, _, _, _, by omega, by omega, by go_num, rfl, hBe⟩
        case measure => simp [intOf]; omega
      · cases hH : isH x1
        · by_cases hN : x3 ≤ 64
          · go_wp2_with fail
            refine (Stored_c p s x1 x2 x3 hb1 hb2 (by omega) _ hB1.one).mono ?_
            rintro e ws ⟨rfl, hA, hG⟩
            have hR2 := HR1.out.grown hG (some_ne (by omega))
            have o1 := hR2.cell 1
            have o2 := hR2.cell 2
            have o3 := hR2.cell 3
            simp only [List.getElem?_cons_zero, List.getElem?_cons_succ] at o1 o2 o3
            go_wp2_with fail
            refine (rStored_no q r x1 x2 x3 hb1 hH _ (hB1.two' hG)).mono ?_
            rintro e wt ⟨rfl, rfl⟩
            have hst : storedS s x1 x2 x3 = s := by rw [storedS, if_neg (fun x => by rw [hH] at x; exact absurd x.1 (by simp))]
            rw [hst] at hA
            have hB2 : Both w q _ p s r := hB1.wrote hA hG (hB1.two' hG) (gr_refl _ _) hB1.ag
            clear o1 o2 o3 hR2 hA hG hB1 hst
            have hB9 := hB2
            generalize hS9 : s = s9 at *
            generalize hR9 : r = r9 at *
            clear hS9 hR9
            go_wp2_with fail
            refine (all_c p s9 _ hB9.one).mono ?_
            rintro e wa ⟨rfl, ga⟩
            have hBa := hB9.keep ga
            have hBb := hBa.keep (gr_alloc (gr_alloc (gr_refl wa none) (.cells #[.bool (isS s9 0), .bool (isS s9 1), .bool (isS s9 2), .bool (isS s9 3), .bool (isS s9 4), .bool (isS s9 5), .bool (isS s9 6), .bool (isS s9 7)] 32)) (.cells #[.int .u64 (atS s9 0), .int .u64 (atS s9 1), .int .u64 (atS s9 2), .int .u64 (atS s9 3), .int .u64 (atS s9 4), .int .u64 (atS s9 5), .int .u64 (atS s9 6), .int .u64 (atS s9 7)] 33))
            clear ga hBa hB9
            go_wp2_with fail
            refine (Same_c q s9 r9 hBb.ag _ hBb.two).mono ?_
            rintro e wb ⟨rfl, gb⟩
            have hBc := hBb.keep gb
            clear gb hBb
            go_wp2_with fail
            refine (Has_no p s9 (-1) (by decide) (by decide) _ hBc.one).mono ?_
            rintro e wc ⟨rfl, gc⟩
            have hBd := hBc.keep gc
            clear gc hBc
            go_wp2_with fail
            refine (Has_no p s9 8 (by decide) (by decide) _ hBd.one).mono ?_
            rintro e wd ⟨rfl, gd⟩
            have hBe := hBd.keep gd
            clear gd hBd
            go_wp2_with fail
            go_roundw
            case rel => exact ⟨k + 1, _, _, _, by omega, by omega, by go_num, rfl, hBe⟩
            case measure => simp [intOf]; omega
          · go_wp2_with fail
            refine (Stored_c p s x1 x2 64 hb1 hb2 (by omega) _ hB1.one).mono ?_
            rintro e ws ⟨rfl, hA, hG⟩
            have hR2 := HR1.out.grown hG (some_ne (by omega))
            have o1 := hR2.cell 1
            have o2 := hR2.cell 2
            have o3 := hR2.cell 3
            simp only [List.getElem?_cons_zero, List.getElem?_cons_succ] at o1 o2 o3
            go_wp2_with fail
            refine (rStored_no q r x1 x2 64 hb1 hH _ (hB1.two' hG)).mono ?_
            rintro e wt ⟨rfl, rfl⟩
            have hst : storedS s x1 x2 64 = s := by rw [storedS, if_neg (fun x => by rw [hH] at x; exact absurd x.1 (by simp))]
            rw [hst] at hA
            have hB2 : Both w q _ p s r := hB1.wrote hA hG (hB1.two' hG) (gr_refl _ _) hB1.ag
            clear o1 o2 o3 hR2 hA hG hB1 hst
            have hB9 := hB2
            generalize hS9 : s = s9 at *
            generalize hR9 : r = r9 at *
            clear hS9 hR9
            go_wp2_with fail
            refine (all_c p s9 _ hB9.one).mono ?_
            rintro e wa ⟨rfl, ga⟩
            have hBa := hB9.keep ga
            have hBb := hBa.keep (gr_alloc (gr_alloc (gr_refl wa none) (.cells #[.bool (isS s9 0), .bool (isS s9 1), .bool (isS s9 2), .bool (isS s9 3), .bool (isS s9 4), .bool (isS s9 5), .bool (isS s9 6), .bool (isS s9 7)] 32)) (.cells #[.int .u64 (atS s9 0), .int .u64 (atS s9 1), .int .u64 (atS s9 2), .int .u64 (atS s9 3), .int .u64 (atS s9 4), .int .u64 (atS s9 5), .int .u64 (atS s9 6), .int .u64 (atS s9 7)] 33))
            clear ga hBa hB9
            go_wp2_with fail
            refine (Same_c q s9 r9 hBb.ag _ hBb.two).mono ?_
            rintro e wb ⟨rfl, gb⟩
            have hBc := hBb.keep gb
            clear gb hBb
            go_wp2_with fail
            refine (Has_no p s9 (-1) (by decide) (by decide) _ hBc.one).mono ?_
            rintro e wc ⟨rfl, gc⟩
            have hBd := hBc.keep gc
            clear gc hBc
            go_wp2_with fail
            refine (Has_no p s9 8 (by decide) (by decide) _ hBd.one).mono ?_
            rintro e wd ⟨rfl, gd⟩
            have hBe := hBd.keep gd
            clear gd hBd
            go_wp2_with fail
            go_roundw
            case rel => exact ⟨k + 1, _, _, _, by omega, by omega, by go_num, rfl, hBe⟩
            case measure => simp [intOf]; omega
        · by_cases hN : x3 ≤ 64
          · go_wp2_with fail
            refine (Stored_c p s x1 x2 x3 hb1 hb2 (by omega) _ hB1.one).mono ?_
            rintro e ws ⟨rfl, hA, hG⟩
            have hR2 := HR1.out.grown hG (some_ne (by omega))
            have o1 := hR2.cell 1
            have o2 := hR2.cell 2
            have o3 := hR2.cell 3
            simp only [List.getElem?_cons_zero, List.getElem?_cons_succ] at o1 o2 o3
            go_wp2_with fail
            refine (rStored_c q r x1 x2 x3 hb1 hb2 (by omega) hH _ (hB1.two' hG)).mono ?_
            rintro e wt ⟨rfl, ⟨r2, hA', hAf⟩, hG'⟩
            have hB2 := hB1.wrote hA hG hA' hG' (hB1.ag.stored HG1.out x1 x2 x3 hH hb2 (by omega) hAf)
            clear o1 o2 o3 hR2 hA hG hA' hG' hB1 hAf
            have hB9 := hB2
            generalize hS9 : storedS s x1 x2 x3 = s9 at *
            generalize hR9 : r2 = r9 at *
            clear hS9 hR9
            go_wp2_with fail
            refine (all_c p s9 _ hB9.one).mono ?_
            rintro e wa ⟨rfl, ga⟩
            have hBa := hB9.keep ga
            have hBb := hBa.keep (gr_alloc (gr_alloc (gr_refl wa none) (.cells #[.bool (isS s9 0), .bool (isS s9 1), .bool (isS s9 2), .bool (isS s9 3), .bool (isS s9 4), .bool (isS s9 5), .bool (isS s9 6), .bool (isS s9 7)] 32)) (.cells #[.int .u64 (atS s9 0), .int .u64 (atS s9 1), .int .u64 (atS s9 2), .int .u64 (atS s9 3), .int .u64 (atS s9 4), .int .u64 (atS s9 5), .int .u64 (atS s9 6), .int .u64 (atS s9 7)] 33))
            clear ga hBa hB9
            go_wp2_with fail
            refine (Same_c q s9 r9 hBb.ag _ hBb.two).mono ?_
            rintro e wb ⟨rfl, gb⟩
            have hBc := hBb.keep gb
            clear gb hBb
            go_wp2_with fail
            refine (Has_no p s9 (-1) (by decide) (by decide) _ hBc.one).mono ?_
            rintro e wc ⟨rfl, gc⟩
            have hBd := hBc.keep gc
            clear gc hBc
            go_wp2_with fail
            refine (Has_no p s9 8 (by decide) (by decide) _ hBd.one).mono ?_
            rintro e wd ⟨rfl, gd⟩
            have hBe := hBd.keep gd
            clear gd hBd
            go_wp2_with fail
            go_roundw
            case rel => exact ⟨k + 1, _, _, _, by omega, by omega, by go_num, rfl, hBe⟩
            case measure => simp [intOf]; omega
          · go_wp2_with fail
            refine (Stored_c p s x1 x2 64 hb1 hb2 (by omega) _ hB1.one).mono ?_
            rintro e ws ⟨rfl, hA, hG⟩
            have hR2 := HR1.out.grown hG (some_ne (by omega))
            have o1 := hR2.cell 1
            have o2 := hR2.cell 2
            have o3 := hR2.cell 3
            simp only [List.getElem?_cons_zero, List.getElem?_cons_succ] at o1 o2 o3
            go_wp2_with fail
            refine (rStored_c q r x1 x2 64 hb1 hb2 (by omega) hH _ (hB1.two' hG)).mono ?_
            rintro e wt ⟨rfl, ⟨r2, hA', hAf⟩, hG'⟩
            have hB2 := hB1.wrote hA hG hA' hG' (hB1.ag.stored HG1.out x1 x2 64 hH hb2 (by omega) hAf)
            clear o1 o2 o3 hR2 hA hG hA' hG' hB1 hAf
            have hB9 := hB2
            generalize hS9 : storedS s x1 x2 64 = s9 at *
            generalize hR9 : r2 = r9 at *
            clear hS9 hR9
            go_wp2_with fail
            refine (all_c p s9 _ hB9.one).mono ?_
            rintro e wa ⟨rfl, ga⟩
            have hBa := hB9.keep ga
            have hBb := hBa.keep (gr_alloc (gr_alloc (gr_refl wa none) (.cells #[.bool (isS s9 0), .bool (isS s9 1), .bool (isS s9 2), .bool (isS s9 3), .bool (isS s9 4), .bool (isS s9 5), .bool (isS s9 6), .bool (isS s9 7)] 32)) (.cells #[.int .u64 (atS s9 0), .int .u64 (atS s9 1), .int .u64 (atS s9 2), .int .u64 (atS s9 3), .int .u64 (atS s9 4), .int .u64 (atS s9 5), .int .u64 (atS s9 6), .int .u64 (atS s9 7)] 33))
            clear ga hBa hB9
            go_wp2_with fail
            refine (Same_c q s9 r9 hBb.ag _ hBb.two).mono ?_
            rintro e wb ⟨rfl, gb⟩
            have hBc := hBb.keep gb
            clear gb hBb
            go_wp2_with fail
            refine (Has_no p s9 (-1) (by decide) (by decide) _ hBc.one).mono ?_
            rintro e wc ⟨rfl, gc⟩
            have hBd := hBc.keep gc
            clear gc hBc
            go_wp2_with fail
            refine (Has_no p s9 8 (by decide) (by decide) _ hBd.one).mono ?_
            rintro e wd ⟨rfl, gd⟩
            have hBe := hBd.keep gd
            clear gd hBd
            go_wp2_with fail
            go_roundw
            case rel => exact ⟨k + 1, _, _, _, by omega, by omega, by go_num, rfl, hBe⟩
            case measure => simp [intOf]; omega
      · go_wp2_with fail
        refine (Clone_c p s _ hB1.one).mono ?_
        rintro e ws ⟨rfl, hC, hG⟩
        go_wp2_with fail
        refine (Set_c p s 1 8 (by decide) (by unfold B64; omega) _ (hB1.one.kept hG)).mono ?_
        rintro e wt ⟨rfl, hA, hG'⟩
        go_wp2_with fail
        refine (Take_c p _ 0 0 (by decide) (by unfold B64; omega) _ hA).mono ?_
        rintro e wu ⟨rfl, hA2, hG2⟩
        have hB2 := hB1.clone hC rfl hG (gr_trans hG' hG2)
        rw [show (wr.alloc (.cells #[.int .u8 x0, .int .i64 x1, .int .u64 x2, .int .i64 x3] 37)).heap.size = wr.heap.size + 1 from by simp] at hB2
        clear hC hG hA hG' hA2 hG2 hB1
        generalize takeS (setS s 1 8) 0 0 = tk at *
        have hB9 := hB2
        generalize hS9 : s = s9 at *
        generalize hR9 : r = r9 at *
        clear hS9 hR9
        go_wp2_with fail
        refine (all_c (wr.heap.size + 1) s9 _ hB9.one).mono ?_
        rintro e wa ⟨rfl, ga⟩
        have hBa := hB9.keep ga
        have hBb := hBa.keep (gr_alloc (gr_alloc (gr_refl wa none) (.cells #[.bool (isS s9 0), .bool (isS s9 1), .bool (isS s9 2), .bool (isS s9 3), .bool (isS s9 4), .bool (isS s9 5), .bool (isS s9 6), .bool (isS s9 7)] 32)) (.cells #[.int .u64 (atS s9 0), .int .u64 (atS s9 1), .int .u64 (atS s9 2), .int .u64 (atS s9 3), .int .u64 (atS s9 4), .int .u64 (atS s9 5), .int .u64 (atS s9 6), .int .u64 (atS s9 7)] 33))
        clear ga hBa hB9
        go_wp2_with fail
        refine (Same_c q s9 r9 hBb.ag _ hBb.two).mono ?_
        rintro e wb ⟨rfl, gb⟩
        have hBc := hBb.keep gb
        clear gb hBb
        go_wp2_with fail
        refine (Has_no (wr.heap.size + 1) s9 (-1) (by decide) (by decide) _ hBc.one).mono ?_
        rintro e wc ⟨rfl, gc⟩
        have hBd := hBc.keep gc
        clear gc hBc
        go_wp2_with fail
        refine (Has_no (wr.heap.size + 1) s9 8 (by decide) (by decide) _ hBd.one).mono ?_
        rintro e wd ⟨rfl, gd⟩
        have hBe := hBd.keep gd
        clear gd hBd
        go_wp2_with fail
        go_roundw
        case rel => exact ⟨k + 1, _, _, _, by omega, by omega, by go_num, rfl, hBe⟩
        case measure => simp [intOf]; omega
    · have hd1 : decide (k < m0) = false ∨ decide (k < m0) = true ∧ decide ((k : Int) < 60) = false := by
        by_cases h1 : k < m0
        · exact .inr ⟨decide_eq_true h1, decide_eq_false (by omega)⟩
        · exact .inl (decide_eq_false h1)
      clear HEL hlt
      rcases hd1 with hd1 | ⟨hd1, hd2⟩
      all_goals
        go_wp2_with fail
        go_ret
        exact ⟨rfl, hB.bel⟩

theorem own : ownKnob Tryd.prog.godebug = none := by kernel_rfl
theorem laidOut : laidOutB Tryd.prog = true := by kernel_rfl

set_option maxRecDepth 100000 in
theorem lifted (os : Os) (started : os.Started) (H : Type) (enc : TypeId × Value → H) :
    ReturnsInHanded {} Tryd.checked os 4 .any (fun w args => (Rows.amoPlaysSpec.pre enc Tryd.prog Tryd.f4 [] false w args ∧ laidMetH Tryd.prog laidL w) ∧ sizedMet enc Tryd.prog Tryd.f4 (OpenSpec.ofChange Rows.amoPlaysSpec) false w args)
      (Rows.amoPlaysSpec.post enc Tryd.prog Tryd.f4 false true false false) := by
  refine returnsInHanded_of_change_and (C := Tryd.checked) (X := fun w _ => laidMetH Tryd.prog laidL w) (fun _ _ _ hh h => h.of_heap hh) own started (by kernel_rfl) Tryd.func4
    (ChangeSpec.witness_shaped (enc := enc) (C := Tryd.checked) (os := os) (X := fun w _ => laidMetH Tryd.prog laidL w) false (World.doorLaid Tryd.prog 400 os) #[.slice none 0 0] 8 rfl (World.shaped_of_RefB (by kernel_rfl) (by kernel_rfl)) (by kernel_rfl) (by kernel_rfl) (by kernel_rfl) (door_met os _)) ?_
  intro W base args ds gs before hval0 hW _ _ hL _
  have hval : ∀ (j : Nat) t v, Tryd.f4.params[j]? = some t → args[j]? = some v → Value.okWide Tryd.prog W .any base t v := hval0
  have hW' := hW
  obtain ⟨p, q, hA0, hV, rfl, hfz, hnd⟩ := hW
  have hA : DataW.TrodAll enc Tryd.prog W 0 (fun _ => true) true Tryd.f4.params.toList args.toList ds p := hA0
  rw [Tryd.params4] at hA hval
  obtain ⟨v0, vs0, d0, ds0, p0, q0, hargs, rfl, rfl, h0, r0⟩ := trodAll_cons hA
  obtain ⟨rfl, rfl, rfl⟩ := trodAll_nil r0
  obtain rfl : args = #[v0] := by cases args; simp_all
  obtain ⟨rfl, rfl⟩ := trodVars_none hV
  clear hA0 hval0 hA
  have k0 := h0
  have lt0 : ∀ x ∈ p0, x.block < W.heap.size := by obtain ⟨m, hm⟩ := k0; exact DataW.trod_lt m _ _ _ hm
  obtain ⟨A0, m0, c0, rfl, mc0, cc0, raw0⟩ := Op.open_items Tryd.underlying28 Tryd.underlying37 (by kernel_rfl) (by kernel_rfl) (by decide) (hval 0 28 v0 rfl rfl) h0
  have el0 : ∀ i, i < m0 → ∃ ad, A0 = some ad ∧ ad.block < W.heap.size ∧ ∃ (x0 : Int) (x1 : Int) (x2 : Int) (x3 : Int), (W.cell? (ad.add (i * 4 + 0)) = some (.int .u8 x0) ∧ (Lit.int .u8 x0).wf = true) ∧ (W.cell? (ad.add (i * 4 + 1)) = some (.int .i64 x1) ∧ (Lit.int .i64 x1).wf = true) ∧ (W.cell? (ad.add (i * 4 + 2)) = some (.int .u64 x2) ∧ (Lit.int .u64 x2).wf = true) ∧ (W.cell? (ad.add (i * 4 + 3)) = some (.int .i64 x3) ∧ (Lit.int .i64 x3).wf = true) := by
    intro i hi
    obtain ⟨ad, hA, hb, n, hf⟩ := raw0 i hi
    obtain ⟨u0, yy0, hu0, ht0⟩ := hf 0 _ rfl
    obtain ⟨x0, ee0, _, ww0⟩ := DataW.trod_int Tryd.underlying5 ht0; simp only [List.cons.injEq, and_true] at ee0; subst ee0
    obtain ⟨u1, yy1, hu1, ht1⟩ := hf 1 _ rfl
    obtain ⟨x1, ee1, _, ww1⟩ := DataW.trod_int Tryd.underlying3 ht1; simp only [List.cons.injEq, and_true] at ee1; subst ee1
    obtain ⟨u2, yy2, hu2, ht2⟩ := hf 2 _ rfl
    obtain ⟨x2, ee2, _, ww2⟩ := DataW.trod_int Tryd.underlying22 ht2; simp only [List.cons.injEq, and_true] at ee2; subst ee2
    obtain ⟨u3, yy3, hu3, ht3⟩ := hf 3 _ rfl
    obtain ⟨x3, ee3, _, ww3⟩ := DataW.trod_int Tryd.underlying3 ht3; simp only [List.cons.injEq, and_true] at ee3; subst ee3
    exact ⟨ad, hA, hb, x0, x1, x2, x3, ⟨hu0, ww0⟩, ⟨hu1, ww1⟩, ⟨hu2, ww2⟩, ⟨hu3, ww3⟩⟩
  refine (walk W (of_laid hL) A0 m0 c0 mc0 cc0 el0).mono fun e W' ⟨he, bel⟩ => ?_
  subst he
  exact ⟨_, rfl, _, _, _, [], _, [], hW', trodAll_mk1 (shut_bool Tryd.underlying4 _), (trodAll_cons_mk (Below.trod laidOut (by kernel_rfl) (of_decide_eq_true (by kernel_rfl)) k0 bel lt0) trodAll_mk0), rfl, bel.frame _, fun h => by cases h⟩

theorem over : Rows.AmoPlaysSaid :=
  OpenClaim.holds_of_wide 4 Tryd.f4 rfl rfl rfl rfl rfl rfl rfl ⟨rfl, rfl, rfl, rfl, rfl⟩ rfl rfl rfl rfl rfl (by kernel_rfl) Tryd.func4 (by kernel_rfl)
    (of_decide_eq_true (by kernel_rfl)) (by unfold Func.isWrapper; first | (rw [if_pos (by decide +kernel)]; kernel_rfl) | (rw [if_neg (by decide +kernel)]; exact ⟨rfl, rfl⟩))
    (fun os started H enc _ => lifted os started H enc)

/-- The statement: the card, its listed variable tied to the program's text. -/
theorem proved : Rows.AmoPlaysCardSaid :=
  Claim7.holds_tied_plain_at .later [] [.data] true (true, "31207531034b7620e56e914a189728be8f7cc7a00cfb548c6c1a0ec61e101d21") false
    over (fun _ h => by cases h) (by kernel_rfl) (fun _ h => by cases h) amoPlays_row_tie rfl ⟨rfl, rfl⟩ (by kernel_rfl) rfl
    (fun f fn hf hfn => by
      obtain rfl : f = 4 := Option.some.inj ((show Tryd.prog.funcNamed "suzerain/suzerainlaw08.AmoPlays" = some 4 by kernel_rfl).symm.trans hf) |>.symm
      obtain rfl : fn = Tryd.f4 := (Option.some.inj (Tryd.func4.symm.trans hfn)).symm
      exact ⟨by kernel_rfl, fun j t ht => by
        rw [Tryd.params4] at ht
        have hm : t ∈ [28] := by simpa using Array.mem_of_getElem? ht
        have hall : ([28].all fun u => !Tryd.prog.wantsStandIn u) = true := by kernel_rfl
        exact (show Tryd.prog.wantsStandIn t = false by simpa using List.all_eq_true.1 hall t hm)⟩)
    (by kernel_rfl)
#print axioms proved

end Go.Proofs.YtaanmebebapbpaaDoor.amoPlays
