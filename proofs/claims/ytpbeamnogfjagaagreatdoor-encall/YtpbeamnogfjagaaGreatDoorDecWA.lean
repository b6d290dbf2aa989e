/-
  The document's own Word (package suzerainref04), way by way (part A): a contract over the translation for each kind of op, by the program's plain functions.
  Conditions: the argument is a word.
-/
import Derived.Test.YtpbeamnogfjagaaGreatDoorDecR3
namespace Go.Proofs.YtpbeamnogfjagaaGreatDoor.refWord
open Go Go.RowKit F W M D
set_option linter.unusedVariables false
set_option maxRecDepth 100000

theorem gr_new {a w : World} {g i : Nat} (h : a.grownBy w none) (hg : a.heap.size ≤ g) (u : Value) : a.grownBy (w.setCell ⟨g, i, none⟩ u) none :=
  gr_row (gr_set (gr_none h _) u) hg
set_option maxRecDepth 100000 in
set_option maxHeartbeats 4000000 in
theorem way_none (x : Nat) (hx : x < 4294967296) (hO : (D.wordV x).1 = 0) (w : World) :
    Calls Tryz.prog 15 #[.int .u32 x] w fun e w' => e = .returned (.agg #[.int .i64 0, .int .i64 0, .int .i64 0, .int .i64 0, .int .i64 0, .int .i64 4]) ∧ w.grownBy w' none := by
  have HO := Lib.hid (fun W => rop_c x hx W)
  rw [hO] at HO
  clear hO
  have HD := Lib.hid (fun W => rRd_c x hx W)
  have HS := Lib.hid (fun W => rRs1_c x hx W)
  have HR2 := Lib.hid (fun W => rRs2_c x hx W)
  have HK := Lib.hid (show kindV 0 = 0 from by decide)
  have ld := get_lt x 7 5
  have ls := get_lt x 15 5
  have lr := get_lt x 20 5
  generalize get x 7 5 = d at *
  generalize get x 15 5 = s at *
  generalize get x 20 5 = r at *
  have RR := Lib.hid (Row.fresh w 23 six0)
  go_enter Tryz.func15, Tryz.ntmps15
  go_wp2_with fail
  refine (HO.out _).mono ?_
  rintro e w1 ⟨rfl, hG1⟩
  have G1 := Lib.hid hG1
  clear hG1
  go_wp2_with fail
  refine (HD.out _).mono ?_
  rintro e w' ⟨rfl, rfl⟩
  go_wp2_with fail
  refine (HS.out _).mono ?_
  rintro e w' ⟨rfl, rfl⟩
  go_wp2_with fail
  refine (HR2.out _).mono ?_
  rintro e w' ⟨rfl, rfl⟩
  go_wp2_with fail
  refine (rKind_c 0 (by omega) _).mono ?_
  rintro e w2 ⟨rfl, hG2⟩
  rw [HK.out]
  have G2 := Lib.hid hG2
  clear hG2
  have QB2 := Lib.hid (show Row w2 w1.heap.size 23 [.int .i64 0, .int .i64 0, .int .i64 0, .int .i64 0, .int .i64 0, .int .i64 4] from (Row.fresh w1 23 [.int .i64 0, .int .i64 0, .int .i64 0, .int .i64 0, .int .i64 0, .int .i64 4]).grown G2.out (by simp))
  have QR2 := Lib.hid (((RR.out.grown G1.out (by simp)).alloc (.cells #[.int .i64 0, .int .i64 0, .int .i64 0, .int .i64 0, .int .i64 0, .int .i64 4] 23)).grown G2.out (by simp))
  have GG2 := Lib.hid (gr_trans (gr_alloc (gr_trans (gr_alloc (gr_refl w none) (.cells six0.toArray 23)) G1.out) (.cells #[.int .i64 0, .int .i64 0, .int .i64 0, .int .i64 0, .int .i64 0, .int .i64 4] 23)) G2.out)
  have hRB := (RR.out.grown G1.out (by simp)).lt
  have hne : w.heap.size ≠ w1.heap.size := by omega
  have hle : w.heap.size ≤ w1.heap.size := by omega
  have b0 := QB2.out.cell 0
  have b1 := QB2.out.cell 1
  have b2 := QB2.out.cell 2
  have b3 := QB2.out.cell 3
  have b4 := QB2.out.cell 4
  have b5 := QB2.out.cell 5
  have c0 := QR2.out.cell 0
  have c1 := QR2.out.cell 1
  have c2 := QR2.out.cell 2
  have c3 := QR2.out.cell 3
  have c4 := QR2.out.cell 4
  have c5 := QR2.out.cell 5
  have zb := QB2.out.free
  have zc := QR2.out.free
  have lb := QB2.out.lt
  simp only [six0, List.getElem?_cons_zero, List.getElem?_cons_succ] at b0 b1 b2 b3 b4 b5 c0 c1 c2 c3 c4 c5
  go_wp2_with fail
  exact six_ret rfl rfl rfl (six (QR2.out) rfl _ _ _ _ _ _) ⟨rfl, six_gr (GG2.out) (Nat.le_refl _) _ _ _ _ _ _⟩
set_option maxRecDepth 100000 in
set_option maxHeartbeats 4000000 in
theorem way_k1 (x : Nat) (hx : x < 4294967296) (o : Int) (hO : (D.wordV x).1 = o) (ho : 1 ≤ o ∧ o ≤ 2) (w : World) :
    Calls Tryz.prog 15 #[.int .u32 x] w fun e w' => e = .returned (.agg #[.int .i64 o, .int .i64 ((get x 7 5 : Nat) : Int), .int .i64 0, .int .i64 0, .int .i64 (immV x 4), .int .i64 4]) ∧ w.grownBy w' none := by
  have HO := Lib.hid (fun W => rop_c x hx W)
  rw [hO] at HO
  clear hO
  have HD := Lib.hid (fun W => rRd_c x hx W)
  have HS := Lib.hid (fun W => rRs1_c x hx W)
  have HR2 := Lib.hid (fun W => rRs2_c x hx W)
  have HI4 := Lib.hid (fun W => rImm_c x 4 hx (by decide) W)
  have HK := Lib.hid (show kindV o = 1 from kind_at o 1 (by decide) (show o ≤ 4 by omega) (Or.inr (show (0 : Int) < o by omega)))
  have t3 : (o == 3) = false := by simp; omega
  have t4 : (o == 4) = false := by simp; omega
  have ld := get_lt x 7 5
  have ls := get_lt x 15 5
  have lr := get_lt x 20 5
  generalize get x 7 5 = d at *
  generalize get x 15 5 = s at *
  generalize get x 20 5 = r at *
  generalize immV x 4 = i4 at *
  have RR := Lib.hid (Row.fresh w 23 six0)
  go_enter Tryz.func15, Tryz.ntmps15
  go_wp2_with fail
  refine (HO.out _).mono ?_
  rintro e w1 ⟨rfl, hG1⟩
  have G1 := Lib.hid hG1
  clear hG1
  go_wp2_with fail
  refine (HD.out _).mono ?_
  rintro e w' ⟨rfl, rfl⟩
  go_wp2_with fail
  refine (HS.out _).mono ?_
  rintro e w' ⟨rfl, rfl⟩
  go_wp2_with fail
  refine (HR2.out _).mono ?_
  rintro e w' ⟨rfl, rfl⟩
  go_wp2_with fail
  refine (rKind_c o (by omega) _).mono ?_
  rintro e w2 ⟨rfl, hG2⟩
  rw [HK.out]
  have G2 := Lib.hid hG2
  clear hG2
  have QB2 := Lib.hid (show Row w2 w1.heap.size 23 [.int .i64 o, .int .i64 0, .int .i64 0, .int .i64 0, .int .i64 0, .int .i64 4] from (Row.fresh w1 23 [.int .i64 o, .int .i64 0, .int .i64 0, .int .i64 0, .int .i64 0, .int .i64 4]).grown G2.out (by simp))
  have QR2 := Lib.hid (((RR.out.grown G1.out (by simp)).alloc (.cells #[.int .i64 o, .int .i64 0, .int .i64 0, .int .i64 0, .int .i64 0, .int .i64 4] 23)).grown G2.out (by simp))
  have GG2 := Lib.hid (gr_trans (gr_alloc (gr_trans (gr_alloc (gr_refl w none) (.cells six0.toArray 23)) G1.out) (.cells #[.int .i64 o, .int .i64 0, .int .i64 0, .int .i64 0, .int .i64 0, .int .i64 4] 23)) G2.out)
  have hRB := (RR.out.grown G1.out (by simp)).lt
  have hne : w.heap.size ≠ w1.heap.size := by omega
  have hle : w.heap.size ≤ w1.heap.size := by omega
  have b0 := QB2.out.cell 0
  have b1 := QB2.out.cell 1
  have b2 := QB2.out.cell 2
  have b3 := QB2.out.cell 3
  have b4 := QB2.out.cell 4
  have b5 := QB2.out.cell 5
  have c0 := QR2.out.cell 0
  have c1 := QR2.out.cell 1
  have c2 := QR2.out.cell 2
  have c3 := QR2.out.cell 3
  have c4 := QR2.out.cell 4
  have c5 := QR2.out.cell 5
  have zb := QB2.out.free
  have zc := QR2.out.free
  have lb := QB2.out.lt
  simp only [six0, List.getElem?_cons_zero, List.getElem?_cons_succ] at b0 b1 b2 b3 b4 b5 c0 c1 c2 c3 c4 c5
  go_wp2_with fail
  refine (HI4.out _).mono ?_
  rintro e w3 ⟨rfl, hG3⟩
  have G3 := Lib.hid hG3
  clear hG3
  clear b0 b1 b2 b3 b4 b5 c0 c1 c2 c3 c4 c5 zb zc lb
  have QB3 := Lib.hid (show Row w3 w1.heap.size 23 [.int .i64 o, .int .i64 (d : Int), .int .i64 0, .int .i64 0, .int .i64 0, .int .i64 4] from ((QB2.out).put 1 _).grown G3.out (by simp))
  have QR3 := Lib.hid (((QR2.out).other hne _).grown G3.out (by simp))
  have GG3 := Lib.hid (gr_trans (gr_new (GG2.out) hle _) G3.out)
  have b0 := QB3.out.cell 0
  have b1 := QB3.out.cell 1
  have b2 := QB3.out.cell 2
  have b3 := QB3.out.cell 3
  have b4 := QB3.out.cell 4
  have b5 := QB3.out.cell 5
  have c0 := QR3.out.cell 0
  have c1 := QR3.out.cell 1
  have c2 := QR3.out.cell 2
  have c3 := QR3.out.cell 3
  have c4 := QR3.out.cell 4
  have c5 := QR3.out.cell 5
  have zb := QB3.out.free
  have zc := QR3.out.free
  have lb := QB3.out.lt
  simp only [six0, List.getElem?_cons_zero, List.getElem?_cons_succ] at b0 b1 b2 b3 b4 b5 c0 c1 c2 c3 c4 c5
  go_wp2_with fail
  exact six_ret rfl rfl rfl (six ((QR3.out).other hne _) rfl _ _ _ _ _ _) ⟨rfl, six_gr (gr_new (GG3.out) hle _) (Nat.le_refl _) _ _ _ _ _ _⟩
set_option maxRecDepth 100000 in
set_option maxHeartbeats 4000000 in
theorem way_jal (x : Nat) (hx : x < 4294967296) (hO : (D.wordV x).1 = 3) (w : World) :
    Calls Tryz.prog 15 #[.int .u32 x] w fun e w' => e = .returned (.agg #[.int .i64 3, .int .i64 ((get x 7 5 : Nat) : Int), .int .i64 0, .int .i64 0, .int .i64 (immV x 5), .int .i64 4]) ∧ w.grownBy w' none := by
  have HO := Lib.hid (fun W => rop_c x hx W)
  rw [hO] at HO
  clear hO
  have HD := Lib.hid (fun W => rRd_c x hx W)
  have HS := Lib.hid (fun W => rRs1_c x hx W)
  have HR2 := Lib.hid (fun W => rRs2_c x hx W)
  have HI4 := Lib.hid (fun W => rImm_c x 4 hx (by decide) W)
  have HI5 := Lib.hid (fun W => rImm_c x 5 hx (by decide) W)
  have HK := Lib.hid (show kindV 3 = 1 from by decide)
  have ld := get_lt x 7 5
  have ls := get_lt x 15 5
  have lr := get_lt x 20 5
  generalize get x 7 5 = d at *
  generalize get x 15 5 = s at *
  generalize get x 20 5 = r at *
  generalize immV x 4 = i4 at *
  generalize immV x 5 = i5 at *
  have RR := Lib.hid (Row.fresh w 23 six0)
  go_enter Tryz.func15, Tryz.ntmps15
  go_wp2_with fail
  refine (HO.out _).mono ?_
  rintro e w1 ⟨rfl, hG1⟩
  have G1 := Lib.hid hG1
  clear hG1
  go_wp2_with fail
  refine (HD.out _).mono ?_
  rintro e w' ⟨rfl, rfl⟩
  go_wp2_with fail
  refine (HS.out _).mono ?_
  rintro e w' ⟨rfl, rfl⟩
  go_wp2_with fail
  refine (HR2.out _).mono ?_
  rintro e w' ⟨rfl, rfl⟩
  go_wp2_with fail
  refine (rKind_c 3 (by omega) _).mono ?_
  rintro e w2 ⟨rfl, hG2⟩
  rw [HK.out]
  have G2 := Lib.hid hG2
  clear hG2
  have QB2 := Lib.hid (show Row w2 w1.heap.size 23 [.int .i64 3, .int .i64 0, .int .i64 0, .int .i64 0, .int .i64 0, .int .i64 4] from (Row.fresh w1 23 [.int .i64 3, .int .i64 0, .int .i64 0, .int .i64 0, .int .i64 0, .int .i64 4]).grown G2.out (by simp))
  have QR2 := Lib.hid (((RR.out.grown G1.out (by simp)).alloc (.cells #[.int .i64 3, .int .i64 0, .int .i64 0, .int .i64 0, .int .i64 0, .int .i64 4] 23)).grown G2.out (by simp))
  have GG2 := Lib.hid (gr_trans (gr_alloc (gr_trans (gr_alloc (gr_refl w none) (.cells six0.toArray 23)) G1.out) (.cells #[.int .i64 3, .int .i64 0, .int .i64 0, .int .i64 0, .int .i64 0, .int .i64 4] 23)) G2.out)
  have hRB := (RR.out.grown G1.out (by simp)).lt
  have hne : w.heap.size ≠ w1.heap.size := by omega
  have hle : w.heap.size ≤ w1.heap.size := by omega
  have b0 := QB2.out.cell 0
  have b1 := QB2.out.cell 1
  have b2 := QB2.out.cell 2
  have b3 := QB2.out.cell 3
  have b4 := QB2.out.cell 4
  have b5 := QB2.out.cell 5
  have c0 := QR2.out.cell 0
  have c1 := QR2.out.cell 1
  have c2 := QR2.out.cell 2
  have c3 := QR2.out.cell 3
  have c4 := QR2.out.cell 4
  have c5 := QR2.out.cell 5
  have zb := QB2.out.free
  have zc := QR2.out.free
  have lb := QB2.out.lt
  simp only [six0, List.getElem?_cons_zero, List.getElem?_cons_succ] at b0 b1 b2 b3 b4 b5 c0 c1 c2 c3 c4 c5
  go_wp2_with fail
  refine (HI4.out _).mono ?_
  rintro e w3 ⟨rfl, hG3⟩
  have G3 := Lib.hid hG3
  clear hG3
  clear b0 b1 b2 b3 b4 b5 c0 c1 c2 c3 c4 c5 zb zc lb
  have QB3 := Lib.hid (show Row w3 w1.heap.size 23 [.int .i64 3, .int .i64 (d : Int), .int .i64 0, .int .i64 0, .int .i64 0, .int .i64 4] from ((QB2.out).put 1 _).grown G3.out (by simp))
  have QR3 := Lib.hid (((QR2.out).other hne _).grown G3.out (by simp))
  have GG3 := Lib.hid (gr_trans (gr_new (GG2.out) hle _) G3.out)
  have b0 := QB3.out.cell 0
  have b1 := QB3.out.cell 1
  have b2 := QB3.out.cell 2
  have b3 := QB3.out.cell 3
  have b4 := QB3.out.cell 4
  have b5 := QB3.out.cell 5
  have c0 := QR3.out.cell 0
  have c1 := QR3.out.cell 1
  have c2 := QR3.out.cell 2
  have c3 := QR3.out.cell 3
  have c4 := QR3.out.cell 4
  have c5 := QR3.out.cell 5
  have zb := QB3.out.free
  have zc := QR3.out.free
  have lb := QB3.out.lt
  simp only [six0, List.getElem?_cons_zero, List.getElem?_cons_succ] at b0 b1 b2 b3 b4 b5 c0 c1 c2 c3 c4 c5
  go_wp2_with fail
  refine (HI5.out _).mono ?_
  rintro e w4 ⟨rfl, hG4⟩
  have G4 := Lib.hid hG4
  clear hG4
  clear b0 b1 b2 b3 b4 b5 c0 c1 c2 c3 c4 c5 zb zc lb
  have QB4 := Lib.hid (show Row w4 w1.heap.size 23 [.int .i64 3, .int .i64 (d : Int), .int .i64 0, .int .i64 0, .int .i64 i4, .int .i64 4] from ((QB3.out).put 4 _).grown G4.out (by simp))
  have QR4 := Lib.hid (((QR3.out).other hne _).grown G4.out (by simp))
  have GG4 := Lib.hid (gr_trans (gr_new (GG3.out) hle _) G4.out)
  have b0 := QB4.out.cell 0
  have b1 := QB4.out.cell 1
  have b2 := QB4.out.cell 2
  have b3 := QB4.out.cell 3
  have b4 := QB4.out.cell 4
  have b5 := QB4.out.cell 5
  have c0 := QR4.out.cell 0
  have c1 := QR4.out.cell 1
  have c2 := QR4.out.cell 2
  have c3 := QR4.out.cell 3
  have c4 := QR4.out.cell 4
  have c5 := QR4.out.cell 5
  have zb := QB4.out.free
  have zc := QR4.out.free
  have lb := QB4.out.lt
  simp only [six0, List.getElem?_cons_zero, List.getElem?_cons_succ] at b0 b1 b2 b3 b4 b5 c0 c1 c2 c3 c4 c5
  go_wp2_with fail
  exact six_ret rfl rfl rfl (six ((QR4.out).other hne _) rfl _ _ _ _ _ _) ⟨rfl, six_gr (gr_new (GG4.out) hle _) (Nat.le_refl _) _ _ _ _ _ _⟩
set_option maxRecDepth 100000 in
set_option maxHeartbeats 4000000 in
theorem way_jalr (x : Nat) (hx : x < 4294967296) (hO : (D.wordV x).1 = 4) (w : World) :
    Calls Tryz.prog 15 #[.int .u32 x] w fun e w' => e = .returned (.agg #[.int .i64 4, .int .i64 ((get x 7 5 : Nat) : Int), .int .i64 ((get x 15 5 : Nat) : Int), .int .i64 0, .int .i64 (immV x 1), .int .i64 4]) ∧ w.grownBy w' none := by
  have HO := Lib.hid (fun W => rop_c x hx W)
  rw [hO] at HO
  clear hO
  have HD := Lib.hid (fun W => rRd_c x hx W)
  have HS := Lib.hid (fun W => rRs1_c x hx W)
  have HR2 := Lib.hid (fun W => rRs2_c x hx W)
  have HI4 := Lib.hid (fun W => rImm_c x 4 hx (by decide) W)
  have HI1 := Lib.hid (fun W => rImm_c x 1 hx (by decide) W)
  have HK := Lib.hid (show kindV 4 = 1 from by decide)
  have ld := get_lt x 7 5
  have ls := get_lt x 15 5
  have lr := get_lt x 20 5
  generalize get x 7 5 = d at *
  generalize get x 15 5 = s at *
  generalize get x 20 5 = r at *
  generalize immV x 4 = i4 at *
  generalize immV x 1 = i1 at *
  have RR := Lib.hid (Row.fresh w 23 six0)
  go_enter Tryz.func15, Tryz.ntmps15
  go_wp2_with fail
  refine (HO.out _).mono ?_
  rintro e w1 ⟨rfl, hG1⟩
  have G1 := Lib.hid hG1
  clear hG1
  go_wp2_with fail
  refine (HD.out _).mono ?_
  rintro e w' ⟨rfl, rfl⟩
  go_wp2_with fail
  refine (HS.out _).mono ?_
  rintro e w' ⟨rfl, rfl⟩
  go_wp2_with fail
  refine (HR2.out _).mono ?_
  rintro e w' ⟨rfl, rfl⟩
  go_wp2_with fail
  refine (rKind_c 4 (by omega) _).mono ?_
  rintro e w2 ⟨rfl, hG2⟩
  rw [HK.out]
  have G2 := Lib.hid hG2
  clear hG2
  have QB2 := Lib.hid (show Row w2 w1.heap.size 23 [.int .i64 4, .int .i64 0, .int .i64 0, .int .i64 0, .int .i64 0, .int .i64 4] from (Row.fresh w1 23 [.int .i64 4, .int .i64 0, .int .i64 0, .int .i64 0, .int .i64 0, .int .i64 4]).grown G2.out (by simp))
  have QR2 := Lib.hid (((RR.out.grown G1.out (by simp)).alloc (.cells #[.int .i64 4, .int .i64 0, .int .i64 0, .int .i64 0, .int .i64 0, .int .i64 4] 23)).grown G2.out (by simp))
  have GG2 := Lib.hid (gr_trans (gr_alloc (gr_trans (gr_alloc (gr_refl w none) (.cells six0.toArray 23)) G1.out) (.cells #[.int .i64 4, .int .i64 0, .int .i64 0, .int .i64 0, .int .i64 0, .int .i64 4] 23)) G2.out)
  have hRB := (RR.out.grown G1.out (by simp)).lt
  have hne : w.heap.size ≠ w1.heap.size := by omega
  have hle : w.heap.size ≤ w1.heap.size := by omega
  have b0 := QB2.out.cell 0
  have b1 := QB2.out.cell 1
  have b2 := QB2.out.cell 2
  have b3 := QB2.out.cell 3
  have b4 := QB2.out.cell 4
  have b5 := QB2.out.cell 5
  have c0 := QR2.out.cell 0
  have c1 := QR2.out.cell 1
  have c2 := QR2.out.cell 2
  have c3 := QR2.out.cell 3
  have c4 := QR2.out.cell 4
  have c5 := QR2.out.cell 5
  have zb := QB2.out.free
  have zc := QR2.out.free
  have lb := QB2.out.lt
  simp only [six0, List.getElem?_cons_zero, List.getElem?_cons_succ] at b0 b1 b2 b3 b4 b5 c0 c1 c2 c3 c4 c5
  go_wp2_with fail
  refine (HI4.out _).mono ?_
  rintro e w3 ⟨rfl, hG3⟩
  have G3 := Lib.hid hG3
  clear hG3
  clear b0 b1 b2 b3 b4 b5 c0 c1 c2 c3 c4 c5 zb zc lb
  have QB3 := Lib.hid (show Row w3 w1.heap.size 23 [.int .i64 4, .int .i64 (d : Int), .int .i64 0, .int .i64 0, .int .i64 0, .int .i64 4] from ((QB2.out).put 1 _).grown G3.out (by simp))
  have QR3 := Lib.hid (((QR2.out).other hne _).grown G3.out (by simp))
  have GG3 := Lib.hid (gr_trans (gr_new (GG2.out) hle _) G3.out)
  have b0 := QB3.out.cell 0
  have b1 := QB3.out.cell 1
  have b2 := QB3.out.cell 2
  have b3 := QB3.out.cell 3
  have b4 := QB3.out.cell 4
  have b5 := QB3.out.cell 5
  have c0 := QR3.out.cell 0
  have c1 := QR3.out.cell 1
  have c2 := QR3.out.cell 2
  have c3 := QR3.out.cell 3
  have c4 := QR3.out.cell 4
  have c5 := QR3.out.cell 5
  have zb := QB3.out.free
  have zc := QR3.out.free
  have lb := QB3.out.lt
  simp only [six0, List.getElem?_cons_zero, List.getElem?_cons_succ] at b0 b1 b2 b3 b4 b5 c0 c1 c2 c3 c4 c5
  go_wp2_with fail
  refine (HI1.out _).mono ?_
  rintro e w4 ⟨rfl, hG4⟩
  have G4 := Lib.hid hG4
  clear hG4
  clear b0 b1 b2 b3 b4 b5 c0 c1 c2 c3 c4 c5 zb zc lb
  have QB4 := Lib.hid (show Row w4 w1.heap.size 23 [.int .i64 4, .int .i64 (d : Int), .int .i64 (s : Int), .int .i64 0, .int .i64 i4, .int .i64 4] from (((QB3.out).put 4 _).put 2 _).grown G4.out (by simp))
  have QR4 := Lib.hid ((((QR3.out).other hne _).other hne _).grown G4.out (by simp))
  have GG4 := Lib.hid (gr_trans (gr_new (gr_new (GG3.out) hle _) hle _) G4.out)
  have b0 := QB4.out.cell 0
  have b1 := QB4.out.cell 1
  have b2 := QB4.out.cell 2
  have b3 := QB4.out.cell 3
  have b4 := QB4.out.cell 4
  have b5 := QB4.out.cell 5
  have c0 := QR4.out.cell 0
  have c1 := QR4.out.cell 1
  have c2 := QR4.out.cell 2
  have c3 := QR4.out.cell 3
  have c4 := QR4.out.cell 4
  have c5 := QR4.out.cell 5
  have zb := QB4.out.free
  have zc := QR4.out.free
  have lb := QB4.out.lt
  simp only [six0, List.getElem?_cons_zero, List.getElem?_cons_succ] at b0 b1 b2 b3 b4 b5 c0 c1 c2 c3 c4 c5
  go_wp2_with fail
  exact six_ret rfl rfl rfl (six ((QR4.out).other hne _) rfl _ _ _ _ _ _) ⟨rfl, six_gr (gr_new (GG4.out) hle _) (Nat.le_refl _) _ _ _ _ _ _⟩
set_option maxRecDepth 100000 in
set_option maxHeartbeats 4000000 in
theorem way_k2 (x : Nat) (hx : x < 4294967296) (o : Int) (hO : (D.wordV x).1 = o) (ho : 5 ≤ o ∧ o ≤ 10) (w : World) :
    Calls Tryz.prog 15 #[.int .u32 x] w fun e w' => e = .returned (.agg #[.int .i64 o, .int .i64 0, .int .i64 ((get x 15 5 : Nat) : Int), .int .i64 ((get x 20 5 : Nat) : Int), .int .i64 (immV x 3), .int .i64 4]) ∧ w.grownBy w' none := by
  have HO := Lib.hid (fun W => rop_c x hx W)
  rw [hO] at HO
  clear hO
  have HD := Lib.hid (fun W => rRd_c x hx W)
  have HS := Lib.hid (fun W => rRs1_c x hx W)
  have HR2 := Lib.hid (fun W => rRs2_c x hx W)
  have HI3 := Lib.hid (fun W => rImm_c x 3 hx (by decide) W)
  have HK := Lib.hid (show kindV o = 2 from kind_at o 2 (by decide) (show o ≤ 10 by omega) (Or.inr (show (4 : Int) < o by omega)))
  have ld := get_lt x 7 5
  have ls := get_lt x 15 5
  have lr := get_lt x 20 5
  generalize get x 7 5 = d at *
  generalize get x 15 5 = s at *
  generalize get x 20 5 = r at *
  generalize immV x 3 = i3 at *
  have RR := Lib.hid (Row.fresh w 23 six0)
  go_enter Tryz.func15, Tryz.ntmps15
  go_wp2_with fail
  refine (HO.out _).mono ?_
  rintro e w1 ⟨rfl, hG1⟩
  have G1 := Lib.hid hG1
  clear hG1
  go_wp2_with fail
  refine (HD.out _).mono ?_
  rintro e w' ⟨rfl, rfl⟩
  go_wp2_with fail
  refine (HS.out _).mono ?_
  rintro e w' ⟨rfl, rfl⟩
  go_wp2_with fail
  refine (HR2.out _).mono ?_
  rintro e w' ⟨rfl, rfl⟩
  go_wp2_with fail
  refine (rKind_c o (by omega) _).mono ?_
  rintro e w2 ⟨rfl, hG2⟩
  rw [HK.out]
  have G2 := Lib.hid hG2
  clear hG2
  have QB2 := Lib.hid (show Row w2 w1.heap.size 23 [.int .i64 o, .int .i64 0, .int .i64 0, .int .i64 0, .int .i64 0, .int .i64 4] from (Row.fresh w1 23 [.int .i64 o, .int .i64 0, .int .i64 0, .int .i64 0, .int .i64 0, .int .i64 4]).grown G2.out (by simp))
  have QR2 := Lib.hid (((RR.out.grown G1.out (by simp)).alloc (.cells #[.int .i64 o, .int .i64 0, .int .i64 0, .int .i64 0, .int .i64 0, .int .i64 4] 23)).grown G2.out (by simp))
  have GG2 := Lib.hid (gr_trans (gr_alloc (gr_trans (gr_alloc (gr_refl w none) (.cells six0.toArray 23)) G1.out) (.cells #[.int .i64 o, .int .i64 0, .int .i64 0, .int .i64 0, .int .i64 0, .int .i64 4] 23)) G2.out)
  have hRB := (RR.out.grown G1.out (by simp)).lt
  have hne : w.heap.size ≠ w1.heap.size := by omega
  have hle : w.heap.size ≤ w1.heap.size := by omega
  have b0 := QB2.out.cell 0
  have b1 := QB2.out.cell 1
  have b2 := QB2.out.cell 2
  have b3 := QB2.out.cell 3
  have b4 := QB2.out.cell 4
  have b5 := QB2.out.cell 5
  have c0 := QR2.out.cell 0
  have c1 := QR2.out.cell 1
  have c2 := QR2.out.cell 2
  have c3 := QR2.out.cell 3
  have c4 := QR2.out.cell 4
  have c5 := QR2.out.cell 5
  have zb := QB2.out.free
  have zc := QR2.out.free
  have lb := QB2.out.lt
  simp only [six0, List.getElem?_cons_zero, List.getElem?_cons_succ] at b0 b1 b2 b3 b4 b5 c0 c1 c2 c3 c4 c5
  go_wp2_with fail
  refine (HI3.out _).mono ?_
  rintro e w3 ⟨rfl, hG3⟩
  have G3 := Lib.hid hG3
  clear hG3
  clear b0 b1 b2 b3 b4 b5 c0 c1 c2 c3 c4 c5 zb zc lb
  have QB3 := Lib.hid (show Row w3 w1.heap.size 23 [.int .i64 o, .int .i64 0, .int .i64 (s : Int), .int .i64 (r : Int), .int .i64 0, .int .i64 4] from (((QB2.out).put 2 _).put 3 _).grown G3.out (by simp))
  have QR3 := Lib.hid ((((QR2.out).other hne _).other hne _).grown G3.out (by simp))
  have GG3 := Lib.hid (gr_trans (gr_new (gr_new (GG2.out) hle _) hle _) G3.out)
  have b0 := QB3.out.cell 0
  have b1 := QB3.out.cell 1
  have b2 := QB3.out.cell 2
  have b3 := QB3.out.cell 3
  have b4 := QB3.out.cell 4
  have b5 := QB3.out.cell 5
  have c0 := QR3.out.cell 0
  have c1 := QR3.out.cell 1
  have c2 := QR3.out.cell 2
  have c3 := QR3.out.cell 3
  have c4 := QR3.out.cell 4
  have c5 := QR3.out.cell 5
  have zb := QB3.out.free
  have zc := QR3.out.free
  have lb := QB3.out.lt
  simp only [six0, List.getElem?_cons_zero, List.getElem?_cons_succ] at b0 b1 b2 b3 b4 b5 c0 c1 c2 c3 c4 c5
  go_wp2_with fail
  exact six_ret rfl rfl rfl (six ((QR3.out).other hne _) rfl _ _ _ _ _ _) ⟨rfl, six_gr (gr_new (GG3.out) hle _) (Nat.le_refl _) _ _ _ _ _ _⟩
set_option maxRecDepth 100000 in
set_option maxHeartbeats 4000000 in
theorem way_k3 (x : Nat) (hx : x < 4294967296) (o : Int) (hO : (D.wordV x).1 = o) (ho : 11 ≤ o ∧ o ≤ 17) (w : World) :
    Calls Tryz.prog 15 #[.int .u32 x] w fun e w' => e = .returned (.agg #[.int .i64 o, .int .i64 ((get x 7 5 : Nat) : Int), .int .i64 ((get x 15 5 : Nat) : Int), .int .i64 0, .int .i64 (immV x 1), .int .i64 4]) ∧ w.grownBy w' none := by
  have HO := Lib.hid (fun W => rop_c x hx W)
  rw [hO] at HO
  clear hO
  have HD := Lib.hid (fun W => rRd_c x hx W)
  have HS := Lib.hid (fun W => rRs1_c x hx W)
  have HR2 := Lib.hid (fun W => rRs2_c x hx W)
  have HI1 := Lib.hid (fun W => rImm_c x 1 hx (by decide) W)
  have HK := Lib.hid (show kindV o = 3 from kind_at o 3 (by decide) (show o ≤ 17 by omega) (Or.inr (show (10 : Int) < o by omega)))
  have ld := get_lt x 7 5
  have ls := get_lt x 15 5
  have lr := get_lt x 20 5
  generalize get x 7 5 = d at *
  generalize get x 15 5 = s at *
  generalize get x 20 5 = r at *
  generalize immV x 1 = i1 at *
  have RR := Lib.hid (Row.fresh w 23 six0)
  go_enter Tryz.func15, Tryz.ntmps15
  go_wp2_with fail
  refine (HO.out _).mono ?_
  rintro e w1 ⟨rfl, hG1⟩
  have G1 := Lib.hid hG1
  clear hG1
  go_wp2_with fail
  refine (HD.out _).mono ?_
  rintro e w' ⟨rfl, rfl⟩
  go_wp2_with fail
  refine (HS.out _).mono ?_
  rintro e w' ⟨rfl, rfl⟩
  go_wp2_with fail
  refine (HR2.out _).mono ?_
  rintro e w' ⟨rfl, rfl⟩
  go_wp2_with fail
  refine (rKind_c o (by omega) _).mono ?_
  rintro e w2 ⟨rfl, hG2⟩
  rw [HK.out]
  have G2 := Lib.hid hG2
  clear hG2
  have QB2 := Lib.hid (show Row w2 w1.heap.size 23 [.int .i64 o, .int .i64 0, .int .i64 0, .int .i64 0, .int .i64 0, .int .i64 4] from (Row.fresh w1 23 [.int .i64 o, .int .i64 0, .int .i64 0, .int .i64 0, .int .i64 0, .int .i64 4]).grown G2.out (by simp))
  have QR2 := Lib.hid (((RR.out.grown G1.out (by simp)).alloc (.cells #[.int .i64 o, .int .i64 0, .int .i64 0, .int .i64 0, .int .i64 0, .int .i64 4] 23)).grown G2.out (by simp))
  have GG2 := Lib.hid (gr_trans (gr_alloc (gr_trans (gr_alloc (gr_refl w none) (.cells six0.toArray 23)) G1.out) (.cells #[.int .i64 o, .int .i64 0, .int .i64 0, .int .i64 0, .int .i64 0, .int .i64 4] 23)) G2.out)
  have hRB := (RR.out.grown G1.out (by simp)).lt
  have hne : w.heap.size ≠ w1.heap.size := by omega
  have hle : w.heap.size ≤ w1.heap.size := by omega
  have b0 := QB2.out.cell 0
  have b1 := QB2.out.cell 1
  have b2 := QB2.out.cell 2
  have b3 := QB2.out.cell 3
  have b4 := QB2.out.cell 4
  have b5 := QB2.out.cell 5
  have c0 := QR2.out.cell 0
  have c1 := QR2.out.cell 1
  have c2 := QR2.out.cell 2
  have c3 := QR2.out.cell 3
  have c4 := QR2.out.cell 4
  have c5 := QR2.out.cell 5
  have zb := QB2.out.free
  have zc := QR2.out.free
  have lb := QB2.out.lt
  simp only [six0, List.getElem?_cons_zero, List.getElem?_cons_succ] at b0 b1 b2 b3 b4 b5 c0 c1 c2 c3 c4 c5
  go_wp2_with fail
  refine (HI1.out _).mono ?_
  rintro e w3 ⟨rfl, hG3⟩
  have G3 := Lib.hid hG3
  clear hG3
  clear b0 b1 b2 b3 b4 b5 c0 c1 c2 c3 c4 c5 zb zc lb
  have QB3 := Lib.hid (show Row w3 w1.heap.size 23 [.int .i64 o, .int .i64 (d : Int), .int .i64 (s : Int), .int .i64 0, .int .i64 0, .int .i64 4] from (((QB2.out).put 1 _).put 2 _).grown G3.out (by simp))
  have QR3 := Lib.hid ((((QR2.out).other hne _).other hne _).grown G3.out (by simp))
  have GG3 := Lib.hid (gr_trans (gr_new (gr_new (GG2.out) hle _) hle _) G3.out)
  have b0 := QB3.out.cell 0
  have b1 := QB3.out.cell 1
  have b2 := QB3.out.cell 2
  have b3 := QB3.out.cell 3
  have b4 := QB3.out.cell 4
  have b5 := QB3.out.cell 5
  have c0 := QR3.out.cell 0
  have c1 := QR3.out.cell 1
  have c2 := QR3.out.cell 2
  have c3 := QR3.out.cell 3
  have c4 := QR3.out.cell 4
  have c5 := QR3.out.cell 5
  have zb := QB3.out.free
  have zc := QR3.out.free
  have lb := QB3.out.lt
  simp only [six0, List.getElem?_cons_zero, List.getElem?_cons_succ] at b0 b1 b2 b3 b4 b5 c0 c1 c2 c3 c4 c5
  go_wp2_with fail
  exact six_ret rfl rfl rfl (six ((QR3.out).other hne _) rfl _ _ _ _ _ _) ⟨rfl, six_gr (gr_new (GG3.out) hle _) (Nat.le_refl _) _ _ _ _ _ _⟩
set_option maxRecDepth 100000 in
set_option maxHeartbeats 4000000 in
theorem way_k4 (x : Nat) (hx : x < 4294967296) (o : Int) (hO : (D.wordV x).1 = o) (ho : 18 ≤ o ∧ o ≤ 21) (w : World) :
    Calls Tryz.prog 15 #[.int .u32 x] w fun e w' => e = .returned (.agg #[.int .i64 o, .int .i64 0, .int .i64 ((get x 15 5 : Nat) : Int), .int .i64 ((get x 20 5 : Nat) : Int), .int .i64 (immV x 2), .int .i64 4]) ∧ w.grownBy w' none := by
  have HO := Lib.hid (fun W => rop_c x hx W)
  rw [hO] at HO
  clear hO
  have HD := Lib.hid (fun W => rRd_c x hx W)
  have HS := Lib.hid (fun W => rRs1_c x hx W)
  have HR2 := Lib.hid (fun W => rRs2_c x hx W)
  have HI2 := Lib.hid (fun W => rImm_c x 2 hx (by decide) W)
  have HK := Lib.hid (show kindV o = 4 from kind_at o 4 (by decide) (show o ≤ 21 by omega) (Or.inr (show (17 : Int) < o by omega)))
  have ld := get_lt x 7 5
  have ls := get_lt x 15 5
  have lr := get_lt x 20 5
  generalize get x 7 5 = d at *
  generalize get x 15 5 = s at *
  generalize get x 20 5 = r at *
  generalize immV x 2 = i2 at *
  have RR := Lib.hid (Row.fresh w 23 six0)
  go_enter Tryz.func15, Tryz.ntmps15
  go_wp2_with fail
  refine (HO.out _).mono ?_
  rintro e w1 ⟨rfl, hG1⟩
  have G1 := Lib.hid hG1
  clear hG1
  go_wp2_with fail
  refine (HD.out _).mono ?_
  rintro e w' ⟨rfl, rfl⟩
  go_wp2_with fail
  refine (HS.out _).mono ?_
  rintro e w' ⟨rfl, rfl⟩
  go_wp2_with fail
  refine (HR2.out _).mono ?_
  rintro e w' ⟨rfl, rfl⟩
  go_wp2_with fail
  refine (rKind_c o (by omega) _).mono ?_
  rintro e w2 ⟨rfl, hG2⟩
  rw [HK.out]
  have G2 := Lib.hid hG2
  clear hG2
  have QB2 := Lib.hid (show Row w2 w1.heap.size 23 [.int .i64 o, .int .i64 0, .int .i64 0, .int .i64 0, .int .i64 0, .int .i64 4] from (Row.fresh w1 23 [.int .i64 o, .int .i64 0, .int .i64 0, .int .i64 0, .int .i64 0, .int .i64 4]).grown G2.out (by simp))
  have QR2 := Lib.hid (((RR.out.grown G1.out (by simp)).alloc (.cells #[.int .i64 o, .int .i64 0, .int .i64 0, .int .i64 0, .int .i64 0, .int .i64 4] 23)).grown G2.out (by simp))
  have GG2 := Lib.hid (gr_trans (gr_alloc (gr_trans (gr_alloc (gr_refl w none) (.cells six0.toArray 23)) G1.out) (.cells #[.int .i64 o, .int .i64 0, .int .i64 0, .int .i64 0, .int .i64 0, .int .i64 4] 23)) G2.out)
  have hRB := (RR.out.grown G1.out (by simp)).lt
  have hne : w.heap.size ≠ w1.heap.size := by omega
  have hle : w.heap.size ≤ w1.heap.size := by omega
  have b0 := QB2.out.cell 0
  have b1 := QB2.out.cell 1
  have b2 := QB2.out.cell 2
  have b3 := QB2.out.cell 3
  have b4 := QB2.out.cell 4
  have b5 := QB2.out.cell 5
  have c0 := QR2.out.cell 0
  have c1 := QR2.out.cell 1
  have c2 := QR2.out.cell 2
  have c3 := QR2.out.cell 3
  have c4 := QR2.out.cell 4
  have c5 := QR2.out.cell 5
  have zb := QB2.out.free
  have zc := QR2.out.free
  have lb := QB2.out.lt
  simp only [six0, List.getElem?_cons_zero, List.getElem?_cons_succ] at b0 b1 b2 b3 b4 b5 c0 c1 c2 c3 c4 c5
  go_wp2_with fail
  refine (HI2.out _).mono ?_
  rintro e w3 ⟨rfl, hG3⟩
  have G3 := Lib.hid hG3
  clear hG3
  clear b0 b1 b2 b3 b4 b5 c0 c1 c2 c3 c4 c5 zb zc lb
  have QB3 := Lib.hid (show Row w3 w1.heap.size 23 [.int .i64 o, .int .i64 0, .int .i64 (s : Int), .int .i64 (r : Int), .int .i64 0, .int .i64 4] from (((QB2.out).put 2 _).put 3 _).grown G3.out (by simp))
  have QR3 := Lib.hid ((((QR2.out).other hne _).other hne _).grown G3.out (by simp))
  have GG3 := Lib.hid (gr_trans (gr_new (gr_new (GG2.out) hle _) hle _) G3.out)
  have b0 := QB3.out.cell 0
  have b1 := QB3.out.cell 1
  have b2 := QB3.out.cell 2
  have b3 := QB3.out.cell 3
  have b4 := QB3.out.cell 4
  have b5 := QB3.out.cell 5
  have c0 := QR3.out.cell 0
  have c1 := QR3.out.cell 1
  have c2 := QR3.out.cell 2
  have c3 := QR3.out.cell 3
  have c4 := QR3.out.cell 4
  have c5 := QR3.out.cell 5
  have zb := QB3.out.free
  have zc := QR3.out.free
  have lb := QB3.out.lt
  simp only [six0, List.getElem?_cons_zero, List.getElem?_cons_succ] at b0 b1 b2 b3 b4 b5 c0 c1 c2 c3 c4 c5
  go_wp2_with fail
  exact six_ret rfl rfl rfl (six ((QR3.out).other hne _) rfl _ _ _ _ _ _) ⟨rfl, six_gr (gr_new (GG3.out) hle _) (Nat.le_refl _) _ _ _ _ _ _⟩
set_option maxRecDepth 100000 in
set_option maxHeartbeats 4000000 in
theorem way_k5a (x : Nat) (hx : x < 4294967296) (o : Int) (hO : (D.wordV x).1 = o) (ho : 22 ≤ o ∧ o ≤ 27) (w : World) :
    Calls Tryz.prog 15 #[.int .u32 x] w fun e w' => e = .returned (.agg #[.int .i64 o, .int .i64 ((get x 7 5 : Nat) : Int), .int .i64 ((get x 15 5 : Nat) : Int), .int .i64 0, .int .i64 (immV x 1), .int .i64 4]) ∧ w.grownBy w' none := by
  have HO := Lib.hid (fun W => rop_c x hx W)
  rw [hO] at HO
  clear hO
  have HD := Lib.hid (fun W => rRd_c x hx W)
  have HS := Lib.hid (fun W => rRs1_c x hx W)
  have HR2 := Lib.hid (fun W => rRs2_c x hx W)
  have HI1 := Lib.hid (fun W => rImm_c x 1 hx (by decide) W)
  have HK := Lib.hid (show kindV o = 5 from kind_at o 5 (by decide) (show o ≤ 30 by omega) (Or.inr (show (21 : Int) < o by omega)))
  have g28 : decide (28 ≤ o) = false := by simp; omega
  have g42 : decide (42 ≤ o) = false := by simp; omega
  have ld := get_lt x 7 5
  have ls := get_lt x 15 5
  have lr := get_lt x 20 5
  generalize get x 7 5 = d at *
  generalize get x 15 5 = s at *
  generalize get x 20 5 = r at *
  generalize immV x 1 = i1 at *
  have RR := Lib.hid (Row.fresh w 23 six0)
  go_enter Tryz.func15, Tryz.ntmps15
  go_wp2_with fail
  refine (HO.out _).mono ?_
  rintro e w1 ⟨rfl, hG1⟩
  have G1 := Lib.hid hG1
  clear hG1
  go_wp2_with fail
  refine (HD.out _).mono ?_
  rintro e w' ⟨rfl, rfl⟩
  go_wp2_with fail
  refine (HS.out _).mono ?_
  rintro e w' ⟨rfl, rfl⟩
  go_wp2_with fail
  refine (HR2.out _).mono ?_
  rintro e w' ⟨rfl, rfl⟩
  go_wp2_with fail
  refine (rKind_c o (by omega) _).mono ?_
  rintro e w2 ⟨rfl, hG2⟩
  rw [HK.out]
  have G2 := Lib.hid hG2
  clear hG2
  have QB2 := Lib.hid (show Row w2 w1.heap.size 23 [.int .i64 o, .int .i64 0, .int .i64 0, .int .i64 0, .int .i64 0, .int .i64 4] from (Row.fresh w1 23 [.int .i64 o, .int .i64 0, .int .i64 0, .int .i64 0, .int .i64 0, .int .i64 4]).grown G2.out (by simp))
  have QR2 := Lib.hid (((RR.out.grown G1.out (by simp)).alloc (.cells #[.int .i64 o, .int .i64 0, .int .i64 0, .int .i64 0, .int .i64 0, .int .i64 4] 23)).grown G2.out (by simp))
  have GG2 := Lib.hid (gr_trans (gr_alloc (gr_trans (gr_alloc (gr_refl w none) (.cells six0.toArray 23)) G1.out) (.cells #[.int .i64 o, .int .i64 0, .int .i64 0, .int .i64 0, .int .i64 0, .int .i64 4] 23)) G2.out)
  have hRB := (RR.out.grown G1.out (by simp)).lt
  have hne : w.heap.size ≠ w1.heap.size := by omega
  have hle : w.heap.size ≤ w1.heap.size := by omega
  have b0 := QB2.out.cell 0
  have b1 := QB2.out.cell 1
  have b2 := QB2.out.cell 2
  have b3 := QB2.out.cell 3
  have b4 := QB2.out.cell 4
  have b5 := QB2.out.cell 5
  have c0 := QR2.out.cell 0
  have c1 := QR2.out.cell 1
  have c2 := QR2.out.cell 2
  have c3 := QR2.out.cell 3
  have c4 := QR2.out.cell 4
  have c5 := QR2.out.cell 5
  have zb := QB2.out.free
  have zc := QR2.out.free
  have lb := QB2.out.lt
  simp only [six0, List.getElem?_cons_zero, List.getElem?_cons_succ] at b0 b1 b2 b3 b4 b5 c0 c1 c2 c3 c4 c5
  go_wp2_with fail
  refine (HI1.out _).mono ?_
  rintro e w3 ⟨rfl, hG3⟩
  have G3 := Lib.hid hG3
  clear hG3
  clear b0 b1 b2 b3 b4 b5 c0 c1 c2 c3 c4 c5 zb zc lb
  have QB3 := Lib.hid (show Row w3 w1.heap.size 23 [.int .i64 o, .int .i64 (d : Int), .int .i64 (s : Int), .int .i64 0, .int .i64 0, .int .i64 4] from (((QB2.out).put 1 _).put 2 _).grown G3.out (by simp))
  have QR3 := Lib.hid ((((QR2.out).other hne _).other hne _).grown G3.out (by simp))
  have GG3 := Lib.hid (gr_trans (gr_new (gr_new (GG2.out) hle _) hle _) G3.out)
  have b0 := QB3.out.cell 0
  have b1 := QB3.out.cell 1
  have b2 := QB3.out.cell 2
  have b3 := QB3.out.cell 3
  have b4 := QB3.out.cell 4
  have b5 := QB3.out.cell 5
  have c0 := QR3.out.cell 0
  have c1 := QR3.out.cell 1
  have c2 := QR3.out.cell 2
  have c3 := QR3.out.cell 3
  have c4 := QR3.out.cell 4
  have c5 := QR3.out.cell 5
  have zb := QB3.out.free
  have zc := QR3.out.free
  have lb := QB3.out.lt
  simp only [six0, List.getElem?_cons_zero, List.getElem?_cons_succ] at b0 b1 b2 b3 b4 b5 c0 c1 c2 c3 c4 c5
  go_wp2_with fail
  exact six_ret rfl rfl rfl (six ((QR3.out).other hne _) rfl _ _ _ _ _ _) ⟨rfl, six_gr (gr_new (GG3.out) hle _) (Nat.le_refl _) _ _ _ _ _ _⟩
end Go.Proofs.YtpbeamnogfjagaaGreatDoor.refWord
