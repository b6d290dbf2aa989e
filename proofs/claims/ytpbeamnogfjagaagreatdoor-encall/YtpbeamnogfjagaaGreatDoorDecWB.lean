/-
  The document's own Word (package suzerainref04), way by way (part B): a contract over the translation for each kind of op, by the program's plain functions.
  Conditions: the argument is a word.
-/
import Derived.Test.YtpbeamnogfjagaaGreatDoorDecR3
namespace Go.Proofs.YtpbeamnogfjagaaGreatDoor.refWord
open Go Go.RowKit F W M D
set_option linter.unusedVariables false
set_option maxRecDepth 100000

theorem gr_newB {a w : World} {g i : Nat} (h : a.grownBy w none) (hg : a.heap.size ≤ g) (u : Value) : a.grownBy (w.setCell ⟨g, i, none⟩ u) none :=
  gr_row (gr_set (gr_none h _) u) hg
set_option maxRecDepth 100000 in
set_option maxHeartbeats 4000000 in
theorem way_k5b (x : Nat) (hx : x < 4294967296) (o : Int) (hO : (D.wordV x).1 = o) (ho : 28 ≤ o ∧ o ≤ 30) (w : World) :
    Calls Tryz.prog 15 #[.int .u32 x] w fun e w' => e = .returned (.agg #[.int .i64 o, .int .i64 ((get x 7 5 : Nat) : Int), .int .i64 ((get x 15 5 : Nat) : Int), .int .i64 0, .int .i64 ((get x 20 6 : Nat) : Int), .int .i64 4]) ∧ w.grownBy w' none := by
  have HO := Lib.hid (fun W => rop_c x hx W)
  rw [hO] at HO
  clear hO
  have HD := Lib.hid (fun W => rRd_c x hx W)
  have HS := Lib.hid (fun W => rRs1_c x hx W)
  have HR2 := Lib.hid (fun W => rRs2_c x hx W)
  have HI1 := Lib.hid (fun W => rImm_c x 1 hx (by decide) W)
  have HG := Lib.hid (fun W => rGet_n x 20 6 hx (by omega) (by omega) W)
  have HK := Lib.hid (show kindV o = 5 from kind_at o 5 (by decide) (show o ≤ 30 by omega) (Or.inr (show (21 : Int) < o by omega)))
  have g28 : 28 ≤ o := by omega
  have l30 : o ≤ 30 := by omega
  have g42 : decide (42 ≤ o) = false := by simp; omega
  have ld := get_lt x 7 5
  have ls := get_lt x 15 5
  have lr := get_lt x 20 5
  have lg := get_lt x 20 6
  generalize get x 20 6 = gg at *
  generalize get x 7 5 = d at *
  generalize get x 15 5 = s at *
  generalize get x 20 5 = r at *
  generalize immV x 1 = i1 at *
  have RR := Lib.hid (Row.fresh w 23 six0)
  go_enter Tryz.func15, Tryz.ntmps15
  go_wp2_with fail
  refine (HO.out _).mono ?_
  rintro e w1 ⟨rfl, hG1⟩
  have G1 := Lib.hid hG1
  clear hG1
  go_wp2_with fail
  refine (HD.out _).mono ?_
  rintro e w' ⟨rfl, rfl⟩
  go_wp2_with fail
  refine (HS.out _).mono ?_
  rintro e w' ⟨rfl, rfl⟩
  go_wp2_with fail
  refine (HR2.out _).mono ?_
  rintro e w' ⟨rfl, rfl⟩
  go_wp2_with fail
  refine (rKind_c o (by omega) _).mono ?_
  rintro e w2 ⟨rfl, hG2⟩
  rw [HK.out]
  have G2 := Lib.hid hG2
  clear hG2
  have QB2 := Lib.hid (show Row w2 w1.heap.size 23 [.int .i64 o, .int .i64 0, .int .i64 0, .int .i64 0, .int .i64 0, .int .i64 4] from (Row.fresh w1 23 [.int .i64 o, .int .i64 0, .int .i64 0, .int .i64 0, .int .i64 0, .int .i64 4]).grown G2.out (by simp))
  have QR2 := Lib.hid (((RR.out.grown G1.out (by simp)).alloc (.cells #[.int .i64 o, .int .i64 0, .int .i64 0, .int .i64 0, .int .i64 0, .int .i64 4] 23)).grown G2.out (by simp))
  have GG2 := Lib.hid (gr_trans (gr_alloc (gr_trans (gr_alloc (gr_refl w none) (.cells six0.toArray 23)) G1.out) (.cells #[.int .i64 o, .int .i64 0, .int .i64 0, .int .i64 0, .int .i64 0, .int .i64 4] 23)) G2.out)
  have hRB := (RR.out.grown G1.out (by simp)).lt
  have hne : w.heap.size ≠ w1.heap.size := by omega
  have hle : w.heap.size ≤ w1.heap.size := by omega
  have b0 := QB2.out.cell 0
  have b1 := QB2.out.cell 1
  have b2 := QB2.out.cell 2
  have b3 := QB2.out.cell 3
  have b4 := QB2.out.cell 4
  have b5 := QB2.out.cell 5
  have c0 := QR2.out.cell 0
  have c1 := QR2.out.cell 1
  have c2 := QR2.out.cell 2
  have c3 := QR2.out.cell 3
  have c4 := QR2.out.cell 4
  have c5 := QR2.out.cell 5
  have zb := QB2.out.free
  have zc := QR2.out.free
  have lb := QB2.out.lt
  simp only [six0, List.getElem?_cons_zero, List.getElem?_cons_succ] at b0 b1 b2 b3 b4 b5 c0 c1 c2 c3 c4 c5
  go_wp2_with fail
  refine (HI1.out _).mono ?_
  rintro e w3 ⟨rfl, hG3⟩
  have G3 := Lib.hid hG3
  clear hG3
  clear b0 b1 b2 b3 b4 b5 c0 c1 c2 c3 c4 c5 zb zc lb
  have QB3 := Lib.hid (show Row w3 w1.heap.size 23 [.int .i64 o, .int .i64 (d : Int), .int .i64 (s : Int), .int .i64 0, .int .i64 0, .int .i64 4] from (((QB2.out).put 1 _).put 2 _).grown G3.out (by simp))
  have QR3 := Lib.hid ((((QR2.out).other hne _).other hne _).grown G3.out (by simp))
  have GG3 := Lib.hid (gr_trans (gr_newB (gr_newB (GG2.out) hle _) hle _) G3.out)
  have b0 := QB3.out.cell 0
  have b1 := QB3.out.cell 1
  have b2 := QB3.out.cell 2
  have b3 := QB3.out.cell 3
  have b4 := QB3.out.cell 4
  have b5 := QB3.out.cell 5
  have c0 := QR3.out.cell 0
  have c1 := QR3.out.cell 1
  have c2 := QR3.out.cell 2
  have c3 := QR3.out.cell 3
  have c4 := QR3.out.cell 4
  have c5 := QR3.out.cell 5
  have zb := QB3.out.free
  have zc := QR3.out.free
  have lb := QB3.out.lt
  simp only [six0, List.getElem?_cons_zero, List.getElem?_cons_succ] at b0 b1 b2 b3 b4 b5 c0 c1 c2 c3 c4 c5
  go_wp2_with fail
  refine (HG.out _).mono ?_
  rintro e w' ⟨rfl, rfl⟩
  go_wp2_with fail
  exact six_ret rfl rfl rfl (six (((QR3.out).other hne _).other hne _) rfl _ _ _ _ _ _) ⟨rfl, six_gr (gr_newB (gr_newB (GG3.out) hle _) hle _) (Nat.le_refl _) _ _ _ _ _ _⟩
set_option maxRecDepth 100000 in
set_option maxHeartbeats 4000000 in
theorem way_k6 (x : Nat) (hx : x < 4294967296) (o : Int) (hO : (D.wordV x).1 = o) (ho : 31 ≤ o ∧ o ≤ 40) (w : World) :
    Calls Tryz.prog 15 #[.int .u32 x] w fun e w' => e = .returned (.agg #[.int .i64 o, .int .i64 ((get x 7 5 : Nat) : Int), .int .i64 ((get x 15 5 : Nat) : Int), .int .i64 ((get x 20 5 : Nat) : Int), .int .i64 0, .int .i64 4]) ∧ w.grownBy w' none := by
  have HO := Lib.hid (fun W => rop_c x hx W)
  rw [hO] at HO
  clear hO
  have HD := Lib.hid (fun W => rRd_c x hx W)
  have HS := Lib.hid (fun W => rRs1_c x hx W)
  have HR2 := Lib.hid (fun W => rRs2_c x hx W)
  have HK := Lib.hid (show kindV o = 6 from kind_at o 6 (by decide) (show o ≤ 40 by omega) (Or.inr (show (30 : Int) < o by omega)))
  have n76 : (o != 76) = true := by simp; omega
  have n87 : (o != 87) = true := by simp; omega
  have ld := get_lt x 7 5
  have ls := get_lt x 15 5
  have lr := get_lt x 20 5
  generalize get x 7 5 = d at *
  generalize get x 15 5 = s at *
  generalize get x 20 5 = r at *
  have RR := Lib.hid (Row.fresh w 23 six0)
  go_enter Tryz.func15, Tryz.ntmps15
  go_wp2_with fail
  refine (HO.out _).mono ?_
  rintro e w1 ⟨rfl, hG1⟩
  have G1 := Lib.hid hG1
  clear hG1
  go_wp2_with fail
  refine (HD.out _).mono ?_
  rintro e w' ⟨rfl, rfl⟩
  go_wp2_with fail
  refine (HS.out _).mono ?_
  rintro e w' ⟨rfl, rfl⟩
  go_wp2_with fail
  refine (HR2.out _).mono ?_
  rintro e w' ⟨rfl, rfl⟩
  go_wp2_with fail
  refine (rKind_c o (by omega) _).mono ?_
  rintro e w2 ⟨rfl, hG2⟩
  rw [HK.out]
  have G2 := Lib.hid hG2
  clear hG2
  have QB2 := Lib.hid (show Row w2 w1.heap.size 23 [.int .i64 o, .int .i64 0, .int .i64 0, .int .i64 0, .int .i64 0, .int .i64 4] from (Row.fresh w1 23 [.int .i64 o, .int .i64 0, .int .i64 0, .int .i64 0, .int .i64 0, .int .i64 4]).grown G2.out (by simp))
  have QR2 := Lib.hid (((RR.out.grown G1.out (by simp)).alloc (.cells #[.int .i64 o, .int .i64 0, .int .i64 0, .int .i64 0, .int .i64 0, .int .i64 4] 23)).grown G2.out (by simp))
  have GG2 := Lib.hid (gr_trans (gr_alloc (gr_trans (gr_alloc (gr_refl w none) (.cells six0.toArray 23)) G1.out) (.cells #[.int .i64 o, .int .i64 0, .int .i64 0, .int .i64 0, .int .i64 0, .int .i64 4] 23)) G2.out)
  have hRB := (RR.out.grown G1.out (by simp)).lt
  have hne : w.heap.size ≠ w1.heap.size := by omega
  have hle : w.heap.size ≤ w1.heap.size := by omega
  have b0 := QB2.out.cell 0
  have b1 := QB2.out.cell 1
  have b2 := QB2.out.cell 2
  have b3 := QB2.out.cell 3
  have b4 := QB2.out.cell 4
  have b5 := QB2.out.cell 5
  have c0 := QR2.out.cell 0
  have c1 := QR2.out.cell 1
  have c2 := QR2.out.cell 2
  have c3 := QR2.out.cell 3
  have c4 := QR2.out.cell 4
  have c5 := QR2.out.cell 5
  have zb := QB2.out.free
  have zc := QR2.out.free
  have lb := QB2.out.lt
  simp only [six0, List.getElem?_cons_zero, List.getElem?_cons_succ] at b0 b1 b2 b3 b4 b5 c0 c1 c2 c3 c4 c5
  go_wp2_with fail
  exact six_ret rfl rfl rfl (six ((((QR2.out).other hne _).other hne _).other hne _) rfl _ _ _ _ _ _) ⟨rfl, six_gr (gr_newB (gr_newB (gr_newB (GG2.out) hle _) hle _) hle _) (Nat.le_refl _) _ _ _ _ _ _⟩
set_option maxRecDepth 100000 in
set_option maxHeartbeats 4000000 in
theorem way_k7a (x : Nat) (hx : x < 4294967296) (hO : (D.wordV x).1 = 41) (w : World) :
    Calls Tryz.prog 15 #[.int .u32 x] w fun e w' => e = .returned (.agg #[.int .i64 41, .int .i64 ((get x 7 5 : Nat) : Int), .int .i64 ((get x 15 5 : Nat) : Int), .int .i64 0, .int .i64 (immV x 1), .int .i64 4]) ∧ w.grownBy w' none := by
  have HO := Lib.hid (fun W => rop_c x hx W)
  rw [hO] at HO
  clear hO
  have HD := Lib.hid (fun W => rRd_c x hx W)
  have HS := Lib.hid (fun W => rRs1_c x hx W)
  have HR2 := Lib.hid (fun W => rRs2_c x hx W)
  have HI1 := Lib.hid (fun W => rImm_c x 1 hx (by decide) W)
  have HK := Lib.hid (show kindV 41 = 7 from by decide)
  have ld := get_lt x 7 5
  have ls := get_lt x 15 5
  have lr := get_lt x 20 5
  generalize get x 7 5 = d at *
  generalize get x 15 5 = s at *
  generalize get x 20 5 = r at *
  generalize immV x 1 = i1 at *
  have RR := Lib.hid (Row.fresh w 23 six0)
  go_enter Tryz.func15, Tryz.ntmps15
  go_wp2_with fail
  refine (HO.out _).mono ?_
  rintro e w1 ⟨rfl, hG1⟩
  have G1 := Lib.hid hG1
  clear hG1
  go_wp2_with fail
  refine (HD.out _).mono ?_
  rintro e w' ⟨rfl, rfl⟩
  go_wp2_with fail
  refine (HS.out _).mono ?_
  rintro e w' ⟨rfl, rfl⟩
  go_wp2_with fail
  refine (HR2.out _).mono ?_
  rintro e w' ⟨rfl, rfl⟩
  go_wp2_with fail
  refine (rKind_c 41 (by omega) _).mono ?_
  rintro e w2 ⟨rfl, hG2⟩
  rw [HK.out]
  have G2 := Lib.hid hG2
  clear hG2
  have QB2 := Lib.hid (show Row w2 w1.heap.size 23 [.int .i64 41, .int .i64 0, .int .i64 0, .int .i64 0, .int .i64 0, .int .i64 4] from (Row.fresh w1 23 [.int .i64 41, .int .i64 0, .int .i64 0, .int .i64 0, .int .i64 0, .int .i64 4]).grown G2.out (by simp))
  have QR2 := Lib.hid (((RR.out.grown G1.out (by simp)).alloc (.cells #[.int .i64 41, .int .i64 0, .int .i64 0, .int .i64 0, .int .i64 0, .int .i64 4] 23)).grown G2.out (by simp))
  have GG2 := Lib.hid (gr_trans (gr_alloc (gr_trans (gr_alloc (gr_refl w none) (.cells six0.toArray 23)) G1.out) (.cells #[.int .i64 41, .int .i64 0, .int .i64 0, .int .i64 0, .int .i64 0, .int .i64 4] 23)) G2.out)
  have hRB := (RR.out.grown G1.out (by simp)).lt
  have hne : w.heap.size ≠ w1.heap.size := by omega
  have hle : w.heap.size ≤ w1.heap.size := by omega
  have b0 := QB2.out.cell 0
  have b1 := QB2.out.cell 1
  have b2 := QB2.out.cell 2
  have b3 := QB2.out.cell 3
  have b4 := QB2.out.cell 4
  have b5 := QB2.out.cell 5
  have c0 := QR2.out.cell 0
  have c1 := QR2.out.cell 1
  have c2 := QR2.out.cell 2
  have c3 := QR2.out.cell 3
  have c4 := QR2.out.cell 4
  have c5 := QR2.out.cell 5
  have zb := QB2.out.free
  have zc := QR2.out.free
  have lb := QB2.out.lt
  simp only [six0, List.getElem?_cons_zero, List.getElem?_cons_succ] at b0 b1 b2 b3 b4 b5 c0 c1 c2 c3 c4 c5
  go_wp2_with fail
  refine (HI1.out _).mono ?_
  rintro e w3 ⟨rfl, hG3⟩
  have G3 := Lib.hid hG3
  clear hG3
  clear b0 b1 b2 b3 b4 b5 c0 c1 c2 c3 c4 c5 zb zc lb
  have QB3 := Lib.hid (show Row w3 w1.heap.size 23 [.int .i64 41, .int .i64 (d : Int), .int .i64 (s : Int), .int .i64 0, .int .i64 0, .int .i64 4] from (((QB2.out).put 1 _).put 2 _).grown G3.out (by simp))
  have QR3 := Lib.hid ((((QR2.out).other hne _).other hne _).grown G3.out (by simp))
  have GG3 := Lib.hid (gr_trans (gr_newB (gr_newB (GG2.out) hle _) hle _) G3.out)
  have b0 := QB3.out.cell 0
  have b1 := QB3.out.cell 1
  have b2 := QB3.out.cell 2
  have b3 := QB3.out.cell 3
  have b4 := QB3.out.cell 4
  have b5 := QB3.out.cell 5
  have c0 := QR3.out.cell 0
  have c1 := QR3.out.cell 1
  have c2 := QR3.out.cell 2
  have c3 := QR3.out.cell 3
  have c4 := QR3.out.cell 4
  have c5 := QR3.out.cell 5
  have zb := QB3.out.free
  have zc := QR3.out.free
  have lb := QB3.out.lt
  simp only [six0, List.getElem?_cons_zero, List.getElem?_cons_succ] at b0 b1 b2 b3 b4 b5 c0 c1 c2 c3 c4 c5
  go_wp2_with fail
  exact six_ret rfl rfl rfl (six ((QR3.out).other hne _) rfl _ _ _ _ _ _) ⟨rfl, six_gr (gr_newB (GG3.out) hle _) (Nat.le_refl _) _ _ _ _ _ _⟩
set_option maxRecDepth 100000 in
set_option maxHeartbeats 4000000 in
theorem way_k7b (x : Nat) (hx : x < 4294967296) (o : Int) (hO : (D.wordV x).1 = o) (ho : 42 ≤ o ∧ o ≤ 44) (w : World) :
    Calls Tryz.prog 15 #[.int .u32 x] w fun e w' => e = .returned (.agg #[.int .i64 o, .int .i64 ((get x 7 5 : Nat) : Int), .int .i64 ((get x 15 5 : Nat) : Int), .int .i64 0, .int .i64 ((get x 20 5 : Nat) : Int), .int .i64 4]) ∧ w.grownBy w' none := by
  have HO := Lib.hid (fun W => rop_c x hx W)
  rw [hO] at HO
  clear hO
  have HD := Lib.hid (fun W => rRd_c x hx W)
  have HS := Lib.hid (fun W => rRs1_c x hx W)
  have HR2 := Lib.hid (fun W => rRs2_c x hx W)
  have HI1 := Lib.hid (fun W => rImm_c x 1 hx (by decide) W)
  have HG := Lib.hid (fun W => rGet_n x 20 5 hx (by omega) (by omega) W)
  have HK := Lib.hid (show kindV o = 7 from kind_at o 7 (by decide) (show o ≤ 44 by omega) (Or.inr (show (40 : Int) < o by omega)))
  have g28 : 28 ≤ o := by omega
  have l30 : decide (o ≤ 30) = false := by simp; omega
  have g42 : 42 ≤ o := by omega
  have l44 : o ≤ 44 := by omega
  have ld := get_lt x 7 5
  have ls := get_lt x 15 5
  have lr := get_lt x 20 5
  have lg := get_lt x 20 5
  generalize get x 7 5 = d at *
  generalize get x 15 5 = s at *
  generalize get x 20 5 = r at *
  generalize immV x 1 = i1 at *
  have RR := Lib.hid (Row.fresh w 23 six0)
  go_enter Tryz.func15, Tryz.ntmps15
  go_wp2_with fail
  refine (HO.out _).mono ?_
  rintro e w1 ⟨rfl, hG1⟩
  have G1 := Lib.hid hG1
  clear hG1
  go_wp2_with fail
  refine (HD.out _).mono ?_
  rintro e w' ⟨rfl, rfl⟩
  go_wp2_with fail
  refine (HS.out _).mono ?_
  rintro e w' ⟨rfl, rfl⟩
  go_wp2_with fail
  refine (HR2.out _).mono ?_
  rintro e w' ⟨rfl, rfl⟩
  go_wp2_with fail
  refine (rKind_c o (by omega) _).mono ?_
  rintro e w2 ⟨rfl, hG2⟩
  rw [HK.out]
  have G2 := Lib.hid hG2
  clear hG2
  have QB2 := Lib.hid (show Row w2 w1.heap.size 23 [.int .i64 o, .int .i64 0, .int .i64 0, .int .i64 0, .int .i64 0, .int .i64 4] from (Row.fresh w1 23 [.int .i64 o, .int .i64 0, .int .i64 0, .int .i64 0, .int .i64 0, .int .i64 4]).grown G2.out (by simp))
  have QR2 := Lib.hid (((RR.out.grown G1.out (by simp)).alloc (.cells #[.int .i64 o, .int .i64 0, .int .i64 0, .int .i64 0, .int .i64 0, .int .i64 4] 23)).grown G2.out (by simp))
  have GG2 := Lib.hid (gr_trans (gr_alloc (gr_trans (gr_alloc (gr_refl w none) (.cells six0.toArray 23)) G1.out) (.cells #[.int .i64 o, .int .i64 0, .int .i64 0, .int .i64 0, .int .i64 0, .int .i64 4] 23)) G2.out)
  have hRB := (RR.out.grown G1.out (by simp)).lt
  have hne : w.heap.size ≠ w1.heap.size := by omega
  have hle : w.heap.size ≤ w1.heap.size := by omega
  have b0 := QB2.out.cell 0
  have b1 := QB2.out.cell 1
  have b2 := QB2.out.cell 2
  have b3 := QB2.out.cell 3
  have b4 := QB2.out.cell 4
  have b5 := QB2.out.cell 5
  have c0 := QR2.out.cell 0
  have c1 := QR2.out.cell 1
  have c2 := QR2.out.cell 2
  have c3 := QR2.out.cell 3
  have c4 := QR2.out.cell 4
  have c5 := QR2.out.cell 5
  have zb := QB2.out.free
  have zc := QR2.out.free
  have lb := QB2.out.lt
  simp only [six0, List.getElem?_cons_zero, List.getElem?_cons_succ] at b0 b1 b2 b3 b4 b5 c0 c1 c2 c3 c4 c5
  go_wp2_with fail
  refine (HI1.out _).mono ?_
  rintro e w3 ⟨rfl, hG3⟩
  have G3 := Lib.hid hG3
  clear hG3
  clear b0 b1 b2 b3 b4 b5 c0 c1 c2 c3 c4 c5 zb zc lb
  have QB3 := Lib.hid (show Row w3 w1.heap.size 23 [.int .i64 o, .int .i64 (d : Int), .int .i64 (s : Int), .int .i64 0, .int .i64 0, .int .i64 4] from (((QB2.out).put 1 _).put 2 _).grown G3.out (by simp))
  have QR3 := Lib.hid ((((QR2.out).other hne _).other hne _).grown G3.out (by simp))
  have GG3 := Lib.hid (gr_trans (gr_newB (gr_newB (GG2.out) hle _) hle _) G3.out)
  have b0 := QB3.out.cell 0
  have b1 := QB3.out.cell 1
  have b2 := QB3.out.cell 2
  have b3 := QB3.out.cell 3
  have b4 := QB3.out.cell 4
  have b5 := QB3.out.cell 5
  have c0 := QR3.out.cell 0
  have c1 := QR3.out.cell 1
  have c2 := QR3.out.cell 2
  have c3 := QR3.out.cell 3
  have c4 := QR3.out.cell 4
  have c5 := QR3.out.cell 5
  have zb := QB3.out.free
  have zc := QR3.out.free
  have lb := QB3.out.lt
  simp only [six0, List.getElem?_cons_zero, List.getElem?_cons_succ] at b0 b1 b2 b3 b4 b5 c0 c1 c2 c3 c4 c5
  go_wp2_with fail
  refine (HG.out _).mono ?_
  rintro e w' ⟨rfl, rfl⟩
  go_wp2_with fail
  exact six_ret rfl rfl rfl (six (((QR3.out).other hne _).other hne _) rfl _ _ _ _ _ _) ⟨rfl, six_gr (gr_newB (gr_newB (GG3.out) hle _) hle _) (Nat.le_refl _) _ _ _ _ _ _⟩
set_option maxRecDepth 100000 in
set_option maxHeartbeats 4000000 in
theorem way_k8 (x : Nat) (hx : x < 4294967296) (o : Int) (hO : (D.wordV x).1 = o) (ho : 45 ≤ o ∧ o ≤ 49) (w : World) :
    Calls Tryz.prog 15 #[.int .u32 x] w fun e w' => e = .returned (.agg #[.int .i64 o, .int .i64 ((get x 7 5 : Nat) : Int), .int .i64 ((get x 15 5 : Nat) : Int), .int .i64 ((get x 20 5 : Nat) : Int), .int .i64 0, .int .i64 4]) ∧ w.grownBy w' none := by
  have HO := Lib.hid (fun W => rop_c x hx W)
  rw [hO] at HO
  clear hO
  have HD := Lib.hid (fun W => rRd_c x hx W)
  have HS := Lib.hid (fun W => rRs1_c x hx W)
  have HR2 := Lib.hid (fun W => rRs2_c x hx W)
  have HK := Lib.hid (show kindV o = 8 from kind_at o 8 (by decide) (show o ≤ 49 by omega) (Or.inr (show (44 : Int) < o by omega)))
  have n76 : (o != 76) = true := by simp; omega
  have n87 : (o != 87) = true := by simp; omega
  have ld := get_lt x 7 5
  have ls := get_lt x 15 5
  have lr := get_lt x 20 5
  generalize get x 7 5 = d at *
  generalize get x 15 5 = s at *
  generalize get x 20 5 = r at *
  have RR := Lib.hid (Row.fresh w 23 six0)
  go_enter Tryz.func15, Tryz.ntmps15
  go_wp2_with fail
  refine (HO.out _).mono ?_
  rintro e w1 ⟨rfl, hG1⟩
  have G1 := Lib.hid hG1
  clear hG1
  go_wp2_with fail
  refine (HD.out _).mono ?_
  rintro e w' ⟨rfl, rfl⟩
  go_wp2_with fail
  refine (HS.out _).mono ?_
  rintro e w' ⟨rfl, rfl⟩
  go_wp2_with fail
  refine (HR2.out _).mono ?_
  rintro e w' ⟨rfl, rfl⟩
  go_wp2_with fail
  refine (rKind_c o (by omega) _).mono ?_
  rintro e w2 ⟨rfl, hG2⟩
  rw [HK.out]
  have G2 := Lib.hid hG2
  clear hG2
  have QB2 := Lib.hid (show Row w2 w1.heap.size 23 [.int .i64 o, .int .i64 0, .int .i64 0, .int .i64 0, .int .i64 0, .int .i64 4] from (Row.fresh w1 23 [.int .i64 o, .int .i64 0, .int .i64 0, .int .i64 0, .int .i64 0, .int .i64 4]).grown G2.out (by simp))
  have QR2 := Lib.hid (((RR.out.grown G1.out (by simp)).alloc (.cells #[.int .i64 o, .int .i64 0, .int .i64 0, .int .i64 0, .int .i64 0, .int .i64 4] 23)).grown G2.out (by simp))
  have GG2 := Lib.hid (gr_trans (gr_alloc (gr_trans (gr_alloc (gr_refl w none) (.cells six0.toArray 23)) G1.out) (.cells #[.int .i64 o, .int .i64 0, .int .i64 0, .int .i64 0, .int .i64 0, .int .i64 4] 23)) G2.out)
  have hRB := (RR.out.grown G1.out (by simp)).lt
  have hne : w.heap.size ≠ w1.heap.size := by omega
  have hle : w.heap.size ≤ w1.heap.size := by omega
  have b0 := QB2.out.cell 0
  have b1 := QB2.out.cell 1
  have b2 := QB2.out.cell 2
  have b3 := QB2.out.cell 3
  have b4 := QB2.out.cell 4
  have b5 := QB2.out.cell 5
  have c0 := QR2.out.cell 0
  have c1 := QR2.out.cell 1
  have c2 := QR2.out.cell 2
  have c3 := QR2.out.cell 3
  have c4 := QR2.out.cell 4
  have c5 := QR2.out.cell 5
  have zb := QB2.out.free
  have zc := QR2.out.free
  have lb := QB2.out.lt
  simp only [six0, List.getElem?_cons_zero, List.getElem?_cons_succ] at b0 b1 b2 b3 b4 b5 c0 c1 c2 c3 c4 c5
  go_wp2_with fail
  exact six_ret rfl rfl rfl (six ((((QR2.out).other hne _).other hne _).other hne _) rfl _ _ _ _ _ _) ⟨rfl, six_gr (gr_newB (gr_newB (gr_newB (GG2.out) hle _) hle _) hle _) (Nat.le_refl _) _ _ _ _ _ _⟩
set_option maxRecDepth 100000 in
set_option maxHeartbeats 4000000 in
theorem way_k9 (x : Nat) (hx : x < 4294967296) (o : Int) (hO : (D.wordV x).1 = o) (ho : 50 ≤ o ∧ o ≤ 57) (w : World) :
    Calls Tryz.prog 15 #[.int .u32 x] w fun e w' => e = .returned (.agg #[.int .i64 o, .int .i64 ((get x 7 5 : Nat) : Int), .int .i64 ((get x 15 5 : Nat) : Int), .int .i64 ((get x 20 5 : Nat) : Int), .int .i64 0, .int .i64 4]) ∧ w.grownBy w' none := by
  have HO := Lib.hid (fun W => rop_c x hx W)
  rw [hO] at HO
  clear hO
  have HD := Lib.hid (fun W => rRd_c x hx W)
  have HS := Lib.hid (fun W => rRs1_c x hx W)
  have HR2 := Lib.hid (fun W => rRs2_c x hx W)
  have HK := Lib.hid (show kindV o = 9 from kind_at o 9 (by decide) (show o ≤ 57 by omega) (Or.inr (show (49 : Int) < o by omega)))
  have n76 : (o != 76) = true := by simp; omega
  have n87 : (o != 87) = true := by simp; omega
  have ld := get_lt x 7 5
  have ls := get_lt x 15 5
  have lr := get_lt x 20 5
  generalize get x 7 5 = d at *
  generalize get x 15 5 = s at *
  generalize get x 20 5 = r at *
  have RR := Lib.hid (Row.fresh w 23 six0)
  go_enter Tryz.func15, Tryz.ntmps15
  go_wp2_with fail
  refine (HO.out _).mono ?_
  rintro e w1 ⟨rfl, hG1⟩
  have G1 := Lib.hid hG1
  clear hG1
  go_wp2_with fail
  refine (HD.out _).mono ?_
  rintro e w' ⟨rfl, rfl⟩
  go_wp2_with fail
  refine (HS.out _).mono ?_
  rintro e w' ⟨rfl, rfl⟩
  go_wp2_with fail
  refine (HR2.out _).mono ?_
  rintro e w' ⟨rfl, rfl⟩
  go_wp2_with fail
  refine (rKind_c o (by omega) _).mono ?_
  rintro e w2 ⟨rfl, hG2⟩
  rw [HK.out]
  have G2 := Lib.hid hG2
  clear hG2
  have QB2 := Lib.hid (show Row w2 w1.heap.size 23 [.int .i64 o, .int .i64 0, .int .i64 0, .int .i64 0, .int .i64 0, .int .i64 4] from (Row.fresh w1 23 [.int .i64 o, .int .i64 0, .int .i64 0, .int .i64 0, .int .i64 0, .int .i64 4]).grown G2.out (by simp))
  have QR2 := Lib.hid (((RR.out.grown G1.out (by simp)).alloc (.cells #[.int .i64 o, .int .i64 0, .int .i64 0, .int .i64 0, .int .i64 0, .int .i64 4] 23)).grown G2.out (by simp))
  have GG2 := Lib.hid (gr_trans (gr_alloc (gr_trans (gr_alloc (gr_refl w none) (.cells six0.toArray 23)) G1.out) (.cells #[.int .i64 o, .int .i64 0, .int .i64 0, .int .i64 0, .int .i64 0, .int .i64 4] 23)) G2.out)
  have hRB := (RR.out.grown G1.out (by simp)).lt
  have hne : w.heap.size ≠ w1.heap.size := by omega
  have hle : w.heap.size ≤ w1.heap.size := by omega
  have b0 := QB2.out.cell 0
  have b1 := QB2.out.cell 1
  have b2 := QB2.out.cell 2
  have b3 := QB2.out.cell 3
  have b4 := QB2.out.cell 4
  have b5 := QB2.out.cell 5
  have c0 := QR2.out.cell 0
  have c1 := QR2.out.cell 1
  have c2 := QR2.out.cell 2
  have c3 := QR2.out.cell 3
  have c4 := QR2.out.cell 4
  have c5 := QR2.out.cell 5
  have zb := QB2.out.free
  have zc := QR2.out.free
  have lb := QB2.out.lt
  simp only [six0, List.getElem?_cons_zero, List.getElem?_cons_succ] at b0 b1 b2 b3 b4 b5 c0 c1 c2 c3 c4 c5
  go_wp2_with fail
  exact six_ret rfl rfl rfl (six ((((QR2.out).other hne _).other hne _).other hne _) rfl _ _ _ _ _ _) ⟨rfl, six_gr (gr_newB (gr_newB (gr_newB (GG2.out) hle _) hle _) hle _) (Nat.le_refl _) _ _ _ _ _ _⟩
set_option maxRecDepth 100000 in
set_option maxHeartbeats 4000000 in
theorem way_k10 (x : Nat) (hx : x < 4294967296) (o : Int) (hO : (D.wordV x).1 = o) (ho : 58 ≤ o ∧ o ≤ 62) (w : World) :
    Calls Tryz.prog 15 #[.int .u32 x] w fun e w' => e = .returned (.agg #[.int .i64 o, .int .i64 ((get x 7 5 : Nat) : Int), .int .i64 ((get x 15 5 : Nat) : Int), .int .i64 ((get x 20 5 : Nat) : Int), .int .i64 0, .int .i64 4]) ∧ w.grownBy w' none := by
  have HO := Lib.hid (fun W => rop_c x hx W)
  rw [hO] at HO
  clear hO
  have HD := Lib.hid (fun W => rRd_c x hx W)
  have HS := Lib.hid (fun W => rRs1_c x hx W)
  have HR2 := Lib.hid (fun W => rRs2_c x hx W)
  have HK := Lib.hid (show kindV o = 10 from kind_at o 10 (by decide) (show o ≤ 62 by omega) (Or.inr (show (57 : Int) < o by omega)))
  have n76 : (o != 76) = true := by simp; omega
  have n87 : (o != 87) = true := by simp; omega
  have ld := get_lt x 7 5
  have ls := get_lt x 15 5
  have lr := get_lt x 20 5
  generalize get x 7 5 = d at *
  generalize get x 15 5 = s at *
  generalize get x 20 5 = r at *
  have RR := Lib.hid (Row.fresh w 23 six0)
  go_enter Tryz.func15, Tryz.ntmps15
  go_wp2_with fail
  refine (HO.out _).mono ?_
  rintro e w1 ⟨rfl, hG1⟩
  have G1 := Lib.hid hG1
  clear hG1
  go_wp2_with fail
  refine (HD.out _).mono ?_
  rintro e w' ⟨rfl, rfl⟩
  go_wp2_with fail
  refine (HS.out _).mono ?_
  rintro e w' ⟨rfl, rfl⟩
  go_wp2_with fail
  refine (HR2.out _).mono ?_
  rintro e w' ⟨rfl, rfl⟩
  go_wp2_with fail
  refine (rKind_c o (by omega) _).mono ?_
  rintro e w2 ⟨rfl, hG2⟩
  rw [HK.out]
  have G2 := Lib.hid hG2
  clear hG2
  have QB2 := Lib.hid (show Row w2 w1.heap.size 23 [.int .i64 o, .int .i64 0, .int .i64 0, .int .i64 0, .int .i64 0, .int .i64 4] from (Row.fresh w1 23 [.int .i64 o, .int .i64 0, .int .i64 0, .int .i64 0, .int .i64 0, .int .i64 4]).grown G2.out (by simp))
  have QR2 := Lib.hid (((RR.out.grown G1.out (by simp)).alloc (.cells #[.int .i64 o, .int .i64 0, .int .i64 0, .int .i64 0, .int .i64 0, .int .i64 4] 23)).grown G2.out (by simp))
  have GG2 := Lib.hid (gr_trans (gr_alloc (gr_trans (gr_alloc (gr_refl w none) (.cells six0.toArray 23)) G1.out) (.cells #[.int .i64 o, .int .i64 0, .int .i64 0, .int .i64 0, .int .i64 0, .int .i64 4] 23)) G2.out)
  have hRB := (RR.out.grown G1.out (by simp)).lt
  have hne : w.heap.size ≠ w1.heap.size := by omega
  have hle : w.heap.size ≤ w1.heap.size := by omega
  have b0 := QB2.out.cell 0
  have b1 := QB2.out.cell 1
  have b2 := QB2.out.cell 2
  have b3 := QB2.out.cell 3
  have b4 := QB2.out.cell 4
  have b5 := QB2.out.cell 5
  have c0 := QR2.out.cell 0
  have c1 := QR2.out.cell 1
  have c2 := QR2.out.cell 2
  have c3 := QR2.out.cell 3
  have c4 := QR2.out.cell 4
  have c5 := QR2.out.cell 5
  have zb := QB2.out.free
  have zc := QR2.out.free
  have lb := QB2.out.lt
  simp only [six0, List.getElem?_cons_zero, List.getElem?_cons_succ] at b0 b1 b2 b3 b4 b5 c0 c1 c2 c3 c4 c5
  go_wp2_with fail
  exact six_ret rfl rfl rfl (six ((((QR2.out).other hne _).other hne _).other hne _) rfl _ _ _ _ _ _) ⟨rfl, six_gr (gr_newB (gr_newB (gr_newB (GG2.out) hle _) hle _) hle _) (Nat.le_refl _) _ _ _ _ _ _⟩
end Go.Proofs.YtpbeamnogfjagaaGreatDoor.refWord
