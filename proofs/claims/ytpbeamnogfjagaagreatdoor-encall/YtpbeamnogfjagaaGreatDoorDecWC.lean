/-
  The document's own Word (package suzerainref04), way by way (part C): a contract over the translation for each kind of op, by the program's plain functions.
  Conditions: the argument is a word.
-/
import Derived.Test.YtpbeamnogfjagaaGreatDoorDecR3
namespace Go.Proofs.YtpbeamnogfjagaaGreatDoor.refWord
open Go Go.RowKit F W M D
set_option linter.unusedVariables false
set_option maxRecDepth 100000

theorem gr_newC {a w : World} {g i : Nat} (h : a.grownBy w none) (hg : a.heap.size ≤ g) (u : Value) : a.grownBy (w.setCell ⟨g, i, none⟩ u) none :=
  gr_row (gr_set (gr_none h _) u) hg
set_option maxRecDepth 100000 in
set_option maxHeartbeats 4000000 in
theorem way_k11 (x : Nat) (hx : x < 4294967296) (o : Int) (hO : (D.wordV x).1 = o) (ho : 63 ≤ o ∧ o ≤ 68) (w : World) :
    Calls Tryz.prog 15 #[.int .u32 x] w fun e w' => e = .returned (.agg #[.int .i64 o, .int .i64 0, .int .i64 0, .int .i64 0, .int .i64 0, .int .i64 4]) ∧ w.grownBy w' none := by
  have HO := Lib.hid (fun W => rop_c x hx W)
  rw [hO] at HO
  clear hO
  have HD := Lib.hid (fun W => rRd_c x hx W)
  have HS := Lib.hid (fun W => rRs1_c x hx W)
  have HR2 := Lib.hid (fun W => rRs2_c x hx W)
  have HK := Lib.hid (show kindV o = 11 from kind_at o 11 (by decide) (show o ≤ 69 by omega) (Or.inr (show (62 : Int) < o by omega)))
  have n69 : (o == 69) = false := by simp; omega
  have ld := get_lt x 7 5
  have ls := get_lt x 15 5
  have lr := get_lt x 20 5
  generalize get x 7 5 = d at *
  generalize get x 15 5 = s at *
  generalize get x 20 5 = r at *
  have RR := Lib.hid (Row.fresh w 23 six0)
  go_enter Tryz.func15, Tryz.ntmps15
  go_wp2_with fail
  refine (HO.out _).mono ?_
  rintro e w1 ⟨rfl, hG1⟩
  have G1 := Lib.hid hG1
  clear hG1
  go_wp2_with fail
  refine (HD.out _).mono ?_
  rintro e w' ⟨rfl, rfl⟩
  go_wp2_with fail
  refine (HS.out _).mono ?_
  rintro e w' ⟨rfl, rfl⟩
  go_wp2_with fail
  refine (HR2.out _).mono ?_
  rintro e w' ⟨rfl, rfl⟩
  go_wp2_with fail
  refine (rKind_c o (by omega) _).mono ?_
  rintro e w2 ⟨rfl, hG2⟩
  rw [HK.out]
  have G2 := Lib.hid hG2
  clear hG2
  have QB2 := Lib.hid (show Row w2 w1.heap.size 23 [.int .i64 o, .int .i64 0, .int .i64 0, .int .i64 0, .int .i64 0, .int .i64 4] from (Row.fresh w1 23 [.int .i64 o, .int .i64 0, .int .i64 0, .int .i64 0, .int .i64 0, .int .i64 4]).grown G2.out (by simp))
  have QR2 := Lib.hid (((RR.out.grown G1.out (by simp)).alloc (.cells #[.int .i64 o, .int .i64 0, .int .i64 0, .int .i64 0, .int .i64 0, .int .i64 4] 23)).grown G2.out (by simp))
  have GG2 := Lib.hid (gr_trans (gr_alloc (gr_trans (gr_alloc (gr_refl w none) (.cells six0.toArray 23)) G1.out) (.cells #[.int .i64 o, .int .i64 0, .int .i64 0, .int .i64 0, .int .i64 0, .int .i64 4] 23)) G2.out)
  have hRB := (RR.out.grown G1.out (by simp)).lt
  have hne : w.heap.size ≠ w1.heap.size := by omega
  have hle : w.heap.size ≤ w1.heap.size := by omega
  have b0 := QB2.out.cell 0
  have b1 := QB2.out.cell 1
  have b2 := QB2.out.cell 2
  have b3 := QB2.out.cell 3
  have b4 := QB2.out.cell 4
  have b5 := QB2.out.cell 5
  have c0 := QR2.out.cell 0
  have c1 := QR2.out.cell 1
  have c2 := QR2.out.cell 2
  have c3 := QR2.out.cell 3
  have c4 := QR2.out.cell 4
  have c5 := QR2.out.cell 5
  have zb := QB2.out.free
  have zc := QR2.out.free
  have lb := QB2.out.lt
  simp only [six0, List.getElem?_cons_zero, List.getElem?_cons_succ] at b0 b1 b2 b3 b4 b5 c0 c1 c2 c3 c4 c5
  go_wp2_with fail
  exact six_ret rfl rfl rfl (six (QR2.out) rfl _ _ _ _ _ _) ⟨rfl, six_gr (GG2.out) (Nat.le_refl _) _ _ _ _ _ _⟩
set_option maxRecDepth 100000 in
set_option maxHeartbeats 4000000 in
theorem way_sfence (x : Nat) (hx : x < 4294967296) (hO : (D.wordV x).1 = 69) (w : World) :
    Calls Tryz.prog 15 #[.int .u32 x] w fun e w' => e = .returned (.agg #[.int .i64 69, .int .i64 0, .int .i64 ((get x 15 5 : Nat) : Int), .int .i64 ((get x 20 5 : Nat) : Int), .int .i64 0, .int .i64 4]) ∧ w.grownBy w' none := by
  have HO := Lib.hid (fun W => rop_c x hx W)
  rw [hO] at HO
  clear hO
  have HD := Lib.hid (fun W => rRd_c x hx W)
  have HS := Lib.hid (fun W => rRs1_c x hx W)
  have HR2 := Lib.hid (fun W => rRs2_c x hx W)
  have HK := Lib.hid (show kindV 69 = 11 from by decide)
  have ld := get_lt x 7 5
  have ls := get_lt x 15 5
  have lr := get_lt x 20 5
  generalize get x 7 5 = d at *
  generalize get x 15 5 = s at *
  generalize get x 20 5 = r at *
  have RR := Lib.hid (Row.fresh w 23 six0)
  go_enter Tryz.func15, Tryz.ntmps15
  go_wp2_with fail
  refine (HO.out _).mono ?_
  rintro e w1 ⟨rfl, hG1⟩
  have G1 := Lib.hid hG1
  clear hG1
  go_wp2_with fail
  refine (HD.out _).mono ?_
  rintro e w' ⟨rfl, rfl⟩
  go_wp2_with fail
  refine (HS.out _).mono ?_
  rintro e w' ⟨rfl, rfl⟩
  go_wp2_with fail
  refine (HR2.out _).mono ?_
  rintro e w' ⟨rfl, rfl⟩
  go_wp2_with fail
  refine (rKind_c 69 (by omega) _).mono ?_
  rintro e w2 ⟨rfl, hG2⟩
  rw [HK.out]
  have G2 := Lib.hid hG2
  clear hG2
  have QB2 := Lib.hid (show Row w2 w1.heap.size 23 [.int .i64 69, .int .i64 0, .int .i64 0, .int .i64 0, .int .i64 0, .int .i64 4] from (Row.fresh w1 23 [.int .i64 69, .int .i64 0, .int .i64 0, .int .i64 0, .int .i64 0, .int .i64 4]).grown G2.out (by simp))
  have QR2 := Lib.hid (((RR.out.grown G1.out (by simp)).alloc (.cells #[.int .i64 69, .int .i64 0, .int .i64 0, .int .i64 0, .int .i64 0, .int .i64 4] 23)).grown G2.out (by simp))
  have GG2 := Lib.hid (gr_trans (gr_alloc (gr_trans (gr_alloc (gr_refl w none) (.cells six0.toArray 23)) G1.out) (.cells #[.int .i64 69, .int .i64 0, .int .i64 0, .int .i64 0, .int .i64 0, .int .i64 4] 23)) G2.out)
  have hRB := (RR.out.grown G1.out (by simp)).lt
  have hne : w.heap.size ≠ w1.heap.size := by omega
  have hle : w.heap.size ≤ w1.heap.size := by omega
  have b0 := QB2.out.cell 0
  have b1 := QB2.out.cell 1
  have b2 := QB2.out.cell 2
  have b3 := QB2.out.cell 3
  have b4 := QB2.out.cell 4
  have b5 := QB2.out.cell 5
  have c0 := QR2.out.cell 0
  have c1 := QR2.out.cell 1
  have c2 := QR2.out.cell 2
  have c3 := QR2.out.cell 3
  have c4 := QR2.out.cell 4
  have c5 := QR2.out.cell 5
  have zb := QB2.out.free
  have zc := QR2.out.free
  have lb := QB2.out.lt
  simp only [six0, List.getElem?_cons_zero, List.getElem?_cons_succ] at b0 b1 b2 b3 b4 b5 c0 c1 c2 c3 c4 c5
  go_wp2_with fail
  exact six_ret rfl rfl rfl (six (((QR2.out).other hne _).other hne _) rfl _ _ _ _ _ _) ⟨rfl, six_gr (gr_newC (gr_newC (GG2.out) hle _) hle _) (Nat.le_refl _) _ _ _ _ _ _⟩
set_option maxRecDepth 100000 in
set_option maxHeartbeats 4000000 in
theorem way_k12 (x : Nat) (hx : x < 4294967296) (o : Int) (hO : (D.wordV x).1 = o) (ho : 70 ≤ o ∧ o ≤ 75) (w : World) :
    Calls Tryz.prog 15 #[.int .u32 x] w fun e w' => e = .returned (.agg #[.int .i64 o, .int .i64 ((get x 7 5 : Nat) : Int), .int .i64 ((get x 15 5 : Nat) : Int), .int .i64 0, .int .i64 ((get x 20 12 : Nat) : Int), .int .i64 4]) ∧ w.grownBy w' none := by
  have HO := Lib.hid (fun W => rop_c x hx W)
  rw [hO] at HO
  clear hO
  have HD := Lib.hid (fun W => rRd_c x hx W)
  have HS := Lib.hid (fun W => rRs1_c x hx W)
  have HR2 := Lib.hid (fun W => rRs2_c x hx W)
  have HG := Lib.hid (fun W => rGet_n x 20 12 hx (by omega) (by omega) W)
  have HK := Lib.hid (show kindV o = 12 from kind_at o 12 (by decide) (show o ≤ 75 by omega) (Or.inr (show (69 : Int) < o by omega)))
  have ld := get_lt x 7 5
  have ls := get_lt x 15 5
  have lr := get_lt x 20 5
  have lg := get_lt x 20 12
  generalize get x 20 12 = gg at *
  generalize get x 7 5 = d at *
  generalize get x 15 5 = s at *
  generalize get x 20 5 = r at *
  have RR := Lib.hid (Row.fresh w 23 six0)
  go_enter Tryz.func15, Tryz.ntmps15
  go_wp2_with fail
  refine (HO.out _).mono ?_
  rintro e w1 ⟨rfl, hG1⟩
  have G1 := Lib.hid hG1
  clear hG1
  go_wp2_with fail
  refine (HD.out _).mono ?_
  rintro e w' ⟨rfl, rfl⟩
  go_wp2_with fail
  refine (HS.out _).mono ?_
  rintro e w' ⟨rfl, rfl⟩
  go_wp2_with fail
  refine (HR2.out _).mono ?_
  rintro e w' ⟨rfl, rfl⟩
  go_wp2_with fail
  refine (rKind_c o (by omega) _).mono ?_
  rintro e w2 ⟨rfl, hG2⟩
  rw [HK.out]
  have G2 := Lib.hid hG2
  clear hG2
  have QB2 := Lib.hid (show Row w2 w1.heap.size 23 [.int .i64 o, .int .i64 0, .int .i64 0, .int .i64 0, .int .i64 0, .int .i64 4] from (Row.fresh w1 23 [.int .i64 o, .int .i64 0, .int .i64 0, .int .i64 0, .int .i64 0, .int .i64 4]).grown G2.out (by simp))
  have QR2 := Lib.hid (((RR.out.grown G1.out (by simp)).alloc (.cells #[.int .i64 o, .int .i64 0, .int .i64 0, .int .i64 0, .int .i64 0, .int .i64 4] 23)).grown G2.out (by simp))
  have GG2 := Lib.hid (gr_trans (gr_alloc (gr_trans (gr_alloc (gr_refl w none) (.cells six0.toArray 23)) G1.out) (.cells #[.int .i64 o, .int .i64 0, .int .i64 0, .int .i64 0, .int .i64 0, .int .i64 4] 23)) G2.out)
  have hRB := (RR.out.grown G1.out (by simp)).lt
  have hne : w.heap.size ≠ w1.heap.size := by omega
  have hle : w.heap.size ≤ w1.heap.size := by omega
  have b0 := QB2.out.cell 0
  have b1 := QB2.out.cell 1
  have b2 := QB2.out.cell 2
  have b3 := QB2.out.cell 3
  have b4 := QB2.out.cell 4
  have b5 := QB2.out.cell 5
  have c0 := QR2.out.cell 0
  have c1 := QR2.out.cell 1
  have c2 := QR2.out.cell 2
  have c3 := QR2.out.cell 3
  have c4 := QR2.out.cell 4
  have c5 := QR2.out.cell 5
  have zb := QB2.out.free
  have zc := QR2.out.free
  have lb := QB2.out.lt
  simp only [six0, List.getElem?_cons_zero, List.getElem?_cons_succ] at b0 b1 b2 b3 b4 b5 c0 c1 c2 c3 c4 c5
  go_wp2_with fail
  refine (HG.out _).mono ?_
  rintro e w' ⟨rfl, rfl⟩
  go_wp2_with fail
  exact six_ret rfl rfl rfl (six ((((QR2.out).other hne _).other hne _).other hne _) rfl _ _ _ _ _ _) ⟨rfl, six_gr (gr_newC (gr_newC (gr_newC (GG2.out) hle _) hle _) hle _) (Nat.le_refl _) _ _ _ _ _ _⟩
set_option maxRecDepth 100000 in
set_option maxHeartbeats 4000000 in
theorem way_lrw (x : Nat) (hx : x < 4294967296) (hO : (D.wordV x).1 = 76) (w : World) :
    Calls Tryz.prog 15 #[.int .u32 x] w fun e w' => e = .returned (.agg #[.int .i64 76, .int .i64 ((get x 7 5 : Nat) : Int), .int .i64 ((get x 15 5 : Nat) : Int), .int .i64 0, .int .i64 0, .int .i64 4]) ∧ w.grownBy w' none := by
  have HO := Lib.hid (fun W => rop_c x hx W)
  rw [hO] at HO
  clear hO
  have HD := Lib.hid (fun W => rRd_c x hx W)
  have HS := Lib.hid (fun W => rRs1_c x hx W)
  have HR2 := Lib.hid (fun W => rRs2_c x hx W)
  have HK := Lib.hid (show kindV 76 = 13 from by decide)
  have ld := get_lt x 7 5
  have ls := get_lt x 15 5
  have lr := get_lt x 20 5
  generalize get x 7 5 = d at *
  generalize get x 15 5 = s at *
  generalize get x 20 5 = r at *
  have RR := Lib.hid (Row.fresh w 23 six0)
  go_enter Tryz.func15, Tryz.ntmps15
  go_wp2_with fail
  refine (HO.out _).mono ?_
  rintro e w1 ⟨rfl, hG1⟩
  have G1 := Lib.hid hG1
  clear hG1
  go_wp2_with fail
  refine (HD.out _).mono ?_
  rintro e w' ⟨rfl, rfl⟩
  go_wp2_with fail
  refine (HS.out _).mono ?_
  rintro e w' ⟨rfl, rfl⟩
  go_wp2_with fail
  refine (HR2.out _).mono ?_
  rintro e w' ⟨rfl, rfl⟩
  go_wp2_with fail
  refine (rKind_c 76 (by omega) _).mono ?_
  rintro e w2 ⟨rfl, hG2⟩
  rw [HK.out]
  have G2 := Lib.hid hG2
  clear hG2
  have QB2 := Lib.hid (show Row w2 w1.heap.size 23 [.int .i64 76, .int .i64 0, .int .i64 0, .int .i64 0, .int .i64 0, .int .i64 4] from (Row.fresh w1 23 [.int .i64 76, .int .i64 0, .int .i64 0, .int .i64 0, .int .i64 0, .int .i64 4]).grown G2.out (by simp))
  have QR2 := Lib.hid (((RR.out.grown G1.out (by simp)).alloc (.cells #[.int .i64 76, .int .i64 0, .int .i64 0, .int .i64 0, .int .i64 0, .int .i64 4] 23)).grown G2.out (by simp))
  have GG2 := Lib.hid (gr_trans (gr_alloc (gr_trans (gr_alloc (gr_refl w none) (.cells six0.toArray 23)) G1.out) (.cells #[.int .i64 76, .int .i64 0, .int .i64 0, .int .i64 0, .int .i64 0, .int .i64 4] 23)) G2.out)
  have hRB := (RR.out.grown G1.out (by simp)).lt
  have hne : w.heap.size ≠ w1.heap.size := by omega
  have hle : w.heap.size ≤ w1.heap.size := by omega
  have b0 := QB2.out.cell 0
  have b1 := QB2.out.cell 1
  have b2 := QB2.out.cell 2
  have b3 := QB2.out.cell 3
  have b4 := QB2.out.cell 4
  have b5 := QB2.out.cell 5
  have c0 := QR2.out.cell 0
  have c1 := QR2.out.cell 1
  have c2 := QR2.out.cell 2
  have c3 := QR2.out.cell 3
  have c4 := QR2.out.cell 4
  have c5 := QR2.out.cell 5
  have zb := QB2.out.free
  have zc := QR2.out.free
  have lb := QB2.out.lt
  simp only [six0, List.getElem?_cons_zero, List.getElem?_cons_succ] at b0 b1 b2 b3 b4 b5 c0 c1 c2 c3 c4 c5
  go_wp2_with fail
  exact six_ret rfl rfl rfl (six (((QR2.out).other hne _).other hne _) rfl _ _ _ _ _ _) ⟨rfl, six_gr (gr_newC (gr_newC (GG2.out) hle _) hle _) (Nat.le_refl _) _ _ _ _ _ _⟩
set_option maxRecDepth 100000 in
set_option maxHeartbeats 4000000 in
theorem way_k13 (x : Nat) (hx : x < 4294967296) (o : Int) (hO : (D.wordV x).1 = o) (ho : 77 ≤ o ∧ o ≤ 86) (w : World) :
    Calls Tryz.prog 15 #[.int .u32 x] w fun e w' => e = .returned (.agg #[.int .i64 o, .int .i64 ((get x 7 5 : Nat) : Int), .int .i64 ((get x 15 5 : Nat) : Int), .int .i64 ((get x 20 5 : Nat) : Int), .int .i64 0, .int .i64 4]) ∧ w.grownBy w' none := by
  have HO := Lib.hid (fun W => rop_c x hx W)
  rw [hO] at HO
  clear hO
  have HD := Lib.hid (fun W => rRd_c x hx W)
  have HS := Lib.hid (fun W => rRs1_c x hx W)
  have HR2 := Lib.hid (fun W => rRs2_c x hx W)
  have HK := Lib.hid (show kindV o = 13 from kind_at o 13 (by decide) (show o ≤ 86 by omega) (Or.inr (show (75 : Int) < o by omega)))
  have n76 : (o != 76) = true := by simp; omega
  have n87 : (o != 87) = true := by simp; omega
  have ld := get_lt x 7 5
  have ls := get_lt x 15 5
  have lr := get_lt x 20 5
  generalize get x 7 5 = d at *
  generalize get x 15 5 = s at *
  generalize get x 20 5 = r at *
  have RR := Lib.hid (Row.fresh w 23 six0)
  go_enter Tryz.func15, Tryz.ntmps15
  go_wp2_with fail
  refine (HO.out _).mono ?_
  rintro e w1 ⟨rfl, hG1⟩
  have G1 := Lib.hid hG1
  clear hG1
  go_wp2_with fail
  refine (HD.out _).mono ?_
  rintro e w' ⟨rfl, rfl⟩
  go_wp2_with fail
  refine (HS.out _).mono ?_
  rintro e w' ⟨rfl, rfl⟩
  go_wp2_with fail
  refine (HR2.out _).mono ?_
  rintro e w' ⟨rfl, rfl⟩
  go_wp2_with fail
  refine (rKind_c o (by omega) _).mono ?_
  rintro e w2 ⟨rfl, hG2⟩
  rw [HK.out]
  have G2 := Lib.hid hG2
  clear hG2
  have QB2 := Lib.hid (show Row w2 w1.heap.size 23 [.int .i64 o, .int .i64 0, .int .i64 0, .int .i64 0, .int .i64 0, .int .i64 4] from (Row.fresh w1 23 [.int .i64 o, .int .i64 0, .int .i64 0, .int .i64 0, .int .i64 0, .int .i64 4]).grown G2.out (by simp))
  have QR2 := Lib.hid (((RR.out.grown G1.out (by simp)).alloc (.cells #[.int .i64 o, .int .i64 0, .int .i64 0, .int .i64 0, .int .i64 0, .int .i64 4] 23)).grown G2.out (by simp))
  have GG2 := Lib.hid (gr_trans (gr_alloc (gr_trans (gr_alloc (gr_refl w none) (.cells six0.toArray 23)) G1.out) (.cells #[.int .i64 o, .int .i64 0, .int .i64 0, .int .i64 0, .int .i64 0, .int .i64 4] 23)) G2.out)
  have hRB := (RR.out.grown G1.out (by simp)).lt
  have hne : w.heap.size ≠ w1.heap.size := by omega
  have hle : w.heap.size ≤ w1.heap.size := by omega
  have b0 := QB2.out.cell 0
  have b1 := QB2.out.cell 1
  have b2 := QB2.out.cell 2
  have b3 := QB2.out.cell 3
  have b4 := QB2.out.cell 4
  have b5 := QB2.out.cell 5
  have c0 := QR2.out.cell 0
  have c1 := QR2.out.cell 1
  have c2 := QR2.out.cell 2
  have c3 := QR2.out.cell 3
  have c4 := QR2.out.cell 4
  have c5 := QR2.out.cell 5
  have zb := QB2.out.free
  have zc := QR2.out.free
  have lb := QB2.out.lt
  simp only [six0, List.getElem?_cons_zero, List.getElem?_cons_succ] at b0 b1 b2 b3 b4 b5 c0 c1 c2 c3 c4 c5
  go_wp2_with fail
  exact six_ret rfl rfl rfl (six ((((QR2.out).other hne _).other hne _).other hne _) rfl _ _ _ _ _ _) ⟨rfl, six_gr (gr_newC (gr_newC (gr_newC (GG2.out) hle _) hle _) hle _) (Nat.le_refl _) _ _ _ _ _ _⟩
set_option maxRecDepth 100000 in
set_option maxHeartbeats 4000000 in
theorem way_lrd (x : Nat) (hx : x < 4294967296) (hO : (D.wordV x).1 = 87) (w : World) :
    Calls Tryz.prog 15 #[.int .u32 x] w fun e w' => e = .returned (.agg #[.int .i64 87, .int .i64 ((get x 7 5 : Nat) : Int), .int .i64 ((get x 15 5 : Nat) : Int), .int .i64 0, .int .i64 0, .int .i64 4]) ∧ w.grownBy w' none := by
  have HO := Lib.hid (fun W => rop_c x hx W)
  rw [hO] at HO
  clear hO
  have HD := Lib.hid (fun W => rRd_c x hx W)
  have HS := Lib.hid (fun W => rRs1_c x hx W)
  have HR2 := Lib.hid (fun W => rRs2_c x hx W)
  have HK := Lib.hid (show kindV 87 = 14 from by decide)
  have ld := get_lt x 7 5
  have ls := get_lt x 15 5
  have lr := get_lt x 20 5
  generalize get x 7 5 = d at *
  generalize get x 15 5 = s at *
  generalize get x 20 5 = r at *
  have RR := Lib.hid (Row.fresh w 23 six0)
  go_enter Tryz.func15, Tryz.ntmps15
  go_wp2_with fail
  refine (HO.out _).mono ?_
  rintro e w1 ⟨rfl, hG1⟩
  have G1 := Lib.hid hG1
  clear hG1
  go_wp2_with fail
  refine (HD.out _).mono ?_
  rintro e w' ⟨rfl, rfl⟩
  go_wp2_with fail
  refine (HS.out _).mono ?_
  rintro e w' ⟨rfl, rfl⟩
  go_wp2_with fail
  refine (HR2.out _).mono ?_
  rintro e w' ⟨rfl, rfl⟩
  go_wp2_with fail
  refine (rKind_c 87 (by omega) _).mono ?_
  rintro e w2 ⟨rfl, hG2⟩
  rw [HK.out]
  have G2 := Lib.hid hG2
  clear hG2
  have QB2 := Lib.hid (show Row w2 w1.heap.size 23 [.int .i64 87, .int .i64 0, .int .i64 0, .int .i64 0, .int .i64 0, .int .i64 4] from (Row.fresh w1 23 [.int .i64 87, .int .i64 0, .int .i64 0, .int .i64 0, .int .i64 0, .int .i64 4]).grown G2.out (by simp))
  have QR2 := Lib.hid (((RR.out.grown G1.out (by simp)).alloc (.cells #[.int .i64 87, .int .i64 0, .int .i64 0, .int .i64 0, .int .i64 0, .int .i64 4] 23)).grown G2.out (by simp))
  have GG2 := Lib.hid (gr_trans (gr_alloc (gr_trans (gr_alloc (gr_refl w none) (.cells six0.toArray 23)) G1.out) (.cells #[.int .i64 87, .int .i64 0, .int .i64 0, .int .i64 0, .int .i64 0, .int .i64 4] 23)) G2.out)
  have hRB := (RR.out.grown G1.out (by simp)).lt
  have hne : w.heap.size ≠ w1.heap.size := by omega
  have hle : w.heap.size ≤ w1.heap.size := by omega
  have b0 := QB2.out.cell 0
  have b1 := QB2.out.cell 1
  have b2 := QB2.out.cell 2
  have b3 := QB2.out.cell 3
  have b4 := QB2.out.cell 4
  have b5 := QB2.out.cell 5
  have c0 := QR2.out.cell 0
  have c1 := QR2.out.cell 1
  have c2 := QR2.out.cell 2
  have c3 := QR2.out.cell 3
  have c4 := QR2.out.cell 4
  have c5 := QR2.out.cell 5
  have zb := QB2.out.free
  have zc := QR2.out.free
  have lb := QB2.out.lt
  simp only [six0, List.getElem?_cons_zero, List.getElem?_cons_succ] at b0 b1 b2 b3 b4 b5 c0 c1 c2 c3 c4 c5
  go_wp2_with fail
  exact six_ret rfl rfl rfl (six (((QR2.out).other hne _).other hne _) rfl _ _ _ _ _ _) ⟨rfl, six_gr (gr_newC (gr_newC (GG2.out) hle _) hle _) (Nat.le_refl _) _ _ _ _ _ _⟩
set_option maxRecDepth 100000 in
set_option maxHeartbeats 4000000 in
theorem way_k14 (x : Nat) (hx : x < 4294967296) (o : Int) (hO : (D.wordV x).1 = o) (ho : 88 ≤ o ∧ o ≤ 97) (w : World) :
    Calls Tryz.prog 15 #[.int .u32 x] w fun e w' => e = .returned (.agg #[.int .i64 o, .int .i64 ((get x 7 5 : Nat) : Int), .int .i64 ((get x 15 5 : Nat) : Int), .int .i64 ((get x 20 5 : Nat) : Int), .int .i64 0, .int .i64 4]) ∧ w.grownBy w' none := by
  have HO := Lib.hid (fun W => rop_c x hx W)
  rw [hO] at HO
  clear hO
  have HD := Lib.hid (fun W => rRd_c x hx W)
  have HS := Lib.hid (fun W => rRs1_c x hx W)
  have HR2 := Lib.hid (fun W => rRs2_c x hx W)
  have HK := Lib.hid (show kindV o = 14 from kind_at o 14 (by decide) (show o ≤ 97 by omega) (Or.inr (show (86 : Int) < o by omega)))
  have n76 : (o != 76) = true := by simp; omega
  have n87 : (o != 87) = true := by simp; omega
  have ld := get_lt x 7 5
  have ls := get_lt x 15 5
  have lr := get_lt x 20 5
  generalize get x 7 5 = d at *
  generalize get x 15 5 = s at *
  generalize get x 20 5 = r at *
  have RR := Lib.hid (Row.fresh w 23 six0)
  go_enter Tryz.func15, Tryz.ntmps15
  go_wp2_with fail
  refine (HO.out _).mono ?_
  rintro e w1 ⟨rfl, hG1⟩
  have G1 := Lib.hid hG1
  clear hG1
  go_wp2_with fail
  refine (HD.out _).mono ?_
  rintro e w' ⟨rfl, rfl⟩
  go_wp2_with fail
  refine (HS.out _).mono ?_
  rintro e w' ⟨rfl, rfl⟩
  go_wp2_with fail
  refine (HR2.out _).mono ?_
  rintro e w' ⟨rfl, rfl⟩
  go_wp2_with fail
  refine (rKind_c o (by omega) _).mono ?_
  rintro e w2 ⟨rfl, hG2⟩
  rw [HK.out]
  have G2 := Lib.hid hG2
  clear hG2
  have QB2 := Lib.hid (show Row w2 w1.heap.size 23 [.int .i64 o, .int .i64 0, .int .i64 0, .int .i64 0, .int .i64 0, .int .i64 4] from (Row.fresh w1 23 [.int .i64 o, .int .i64 0, .int .i64 0, .int .i64 0, .int .i64 0, .int .i64 4]).grown G2.out (by simp))
  have QR2 := Lib.hid (((RR.out.grown G1.out (by simp)).alloc (.cells #[.int .i64 o, .int .i64 0, .int .i64 0, .int .i64 0, .int .i64 0, .int .i64 4] 23)).grown G2.out (by simp))
  have GG2 := Lib.hid (gr_trans (gr_alloc (gr_trans (gr_alloc (gr_refl w none) (.cells six0.toArray 23)) G1.out) (.cells #[.int .i64 o, .int .i64 0, .int .i64 0, .int .i64 0, .int .i64 0, .int .i64 4] 23)) G2.out)
  have hRB := (RR.out.grown G1.out (by simp)).lt
  have hne : w.heap.size ≠ w1.heap.size := by omega
  have hle : w.heap.size ≤ w1.heap.size := by omega
  have b0 := QB2.out.cell 0
  have b1 := QB2.out.cell 1
  have b2 := QB2.out.cell 2
  have b3 := QB2.out.cell 3
  have b4 := QB2.out.cell 4
  have b5 := QB2.out.cell 5
  have c0 := QR2.out.cell 0
  have c1 := QR2.out.cell 1
  have c2 := QR2.out.cell 2
  have c3 := QR2.out.cell 3
  have c4 := QR2.out.cell 4
  have c5 := QR2.out.cell 5
  have zb := QB2.out.free
  have zc := QR2.out.free
  have lb := QB2.out.lt
  simp only [six0, List.getElem?_cons_zero, List.getElem?_cons_succ] at b0 b1 b2 b3 b4 b5 c0 c1 c2 c3 c4 c5
  go_wp2_with fail
  exact six_ret rfl rfl rfl (six ((((QR2.out).other hne _).other hne _).other hne _) rfl _ _ _ _ _ _) ⟨rfl, six_gr (gr_newC (gr_newC (gr_newC (GG2.out) hle _) hle _) hle _) (Nat.le_refl _) _ _ _ _ _ _⟩
end Go.Proofs.YtpbeamnogfjagaaGreatDoor.refWord
