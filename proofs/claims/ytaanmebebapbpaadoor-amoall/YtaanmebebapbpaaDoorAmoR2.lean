/-
  The document's own New of layer 8: what stands in memory behind each op, by the program's plain functions.
  Conditions: the arguments are numbers of their kinds.
-/
import Derived.Test.YtaanmebebapbpaaDoorAmoR
import Derived.Test.YtaanmebebapbpaaDoorAmoX
namespace Go.Proofs.YtaanmebebapbpaaDoor
open Go Go.RowKit W M D A
set_option linter.unusedVariables false
set_option linter.unusedSimpArgs false
set_option maxRecDepth 100000

set_option maxHeartbeats 1000000 in
theorem rnew_76 (a b : Int) (ha : B64 a) (hb : B64 b) (w : World) :
    Calls Tryd.prog 15 #[.int .i64 76, .int .u64 a, .int .u64 b] w fun e w' => e = .returned (.int .u64 (newV 76 a b)) ∧ w.grownBy w' none := by
  have HK := Lib.hid (fun W => rSize_c 76 (by decide) W)
  rw [show szV 76 = 4 from by decide +kernel] at HK
  have HSa := Lib.hid (fun W => rSext_c a 32 ha (by decide) W)
  have HSb := Lib.hid (fun W => rSext_c b 32 hb (by decide) W)
  have ba := sextV_bd a 32 ha
  have bb := sextV_bd b 32 hb
  have HV := Lib.hid (ref_76 a b ha hb)
  have la : B64 (a % 4294967296) := by unfold B64 at *; omega
  have lb : B64 (b % 4294967296) := by unfold B64 at *; omega
  unfold B64 at *
  go_enter Tryd.func15, Tryd.ntmps15
  go_wp2_with fail
  refine (HK.out _).mono ?_
  rintro e w1 ⟨rfl, g1⟩
  go_wp2_with fail
  refine (HSa.out _).mono ?_
  rintro e w2 ⟨rfl, rfl⟩
  go_wp2_with fail
  refine (HSb.out _).mono ?_
  rintro e w3 ⟨rfl, rfl⟩
  go_wp2_with fail
  refine (HK.out _).mono ?_
  rintro e w4 ⟨rfl, g4⟩
  go_wp2_with fail
  refine (HK.out _).mono ?_
  rintro e w5 ⟨rfl, g5⟩
  go_wp2_with fail
  refine (HK.out _).mono ?_
  rintro e w6 ⟨rfl, g6⟩
  go_wp2_with fail
  go_ret
  exact ⟨ret_int (by first | exact HV.out.symm | (rw [HV.out]; simp)), (gr_trans (gr_trans (gr_trans g1 g4) g5) g6)⟩
set_option maxHeartbeats 1000000 in
theorem rnew_77 (a b : Int) (ha : B64 a) (hb : B64 b) (w : World) :
    Calls Tryd.prog 15 #[.int .i64 77, .int .u64 a, .int .u64 b] w fun e w' => e = .returned (.int .u64 (newV 77 a b)) ∧ w.grownBy w' none := by
  have HK := Lib.hid (fun W => rSize_c 77 (by decide) W)
  rw [show szV 77 = 4 from by decide +kernel] at HK
  have HSa := Lib.hid (fun W => rSext_c a 32 ha (by decide) W)
  have HSb := Lib.hid (fun W => rSext_c b 32 hb (by decide) W)
  have ba := sextV_bd a 32 ha
  have bb := sextV_bd b 32 hb
  have HV := Lib.hid (ref_77 a b ha hb)
  have la : B64 (a % 4294967296) := by unfold B64 at *; omega
  have lb : B64 (b % 4294967296) := by unfold B64 at *; omega
  unfold B64 at *
  go_enter Tryd.func15, Tryd.ntmps15
  go_wp2_with fail
  refine (HK.out _).mono ?_
  rintro e w1 ⟨rfl, g1⟩
  go_wp2_with fail
  refine (HSa.out _).mono ?_
  rintro e w2 ⟨rfl, rfl⟩
  go_wp2_with fail
  refine (HSb.out _).mono ?_
  rintro e w3 ⟨rfl, rfl⟩
  go_wp2_with fail
  refine (HK.out _).mono ?_
  rintro e w4 ⟨rfl, g4⟩
  go_wp2_with fail
  refine (HK.out _).mono ?_
  rintro e w5 ⟨rfl, g5⟩
  go_wp2_with fail
  refine (HK.out _).mono ?_
  rintro e w6 ⟨rfl, g6⟩
  go_wp2_with fail
  go_ret
  exact ⟨ret_int (by first | exact HV.out.symm | (rw [HV.out]; simp)), (gr_trans (gr_trans (gr_trans g1 g4) g5) g6)⟩
set_option maxHeartbeats 1000000 in
theorem rnew_78 (a b : Int) (ha : B64 a) (hb : B64 b) (w : World) :
    Calls Tryd.prog 15 #[.int .i64 78, .int .u64 a, .int .u64 b] w fun e w' => e = .returned (.int .u64 (newV 78 a b)) ∧ w.grownBy w' none := by
  have HK := Lib.hid (fun W => rSize_c 78 (by decide) W)
  rw [show szV 78 = 4 from by decide +kernel] at HK
  have HSa := Lib.hid (fun W => rSext_c a 32 ha (by decide) W)
  have HSb := Lib.hid (fun W => rSext_c b 32 hb (by decide) W)
  have ba := sextV_bd a 32 ha
  have bb := sextV_bd b 32 hb
  have HV := Lib.hid (ref_78 a b ha hb)
  have la : B64 (a % 4294967296) := by unfold B64 at *; omega
  have lb : B64 (b % 4294967296) := by unfold B64 at *; omega
  unfold B64 at *
  go_enter Tryd.func15, Tryd.ntmps15
  go_wp2_with fail
  refine (HK.out _).mono ?_
  rintro e w1 ⟨rfl, g1⟩
  go_wp2_with fail
  refine (HSa.out _).mono ?_
  rintro e w2 ⟨rfl, rfl⟩
  go_wp2_with fail
  refine (HSb.out _).mono ?_
  rintro e w3 ⟨rfl, rfl⟩
  go_wp2_with fail
  refine (HK.out _).mono ?_
  rintro e w4 ⟨rfl, g4⟩
  go_wp2_with fail
  refine (HK.out _).mono ?_
  rintro e w5 ⟨rfl, g5⟩
  go_wp2_with fail
  refine (HK.out _).mono ?_
  rintro e w6 ⟨rfl, g6⟩
  go_wp2_with fail
  go_ret
  exact ⟨ret_int (by first | exact HV.out.symm | (rw [HV.out]; simp)), (gr_trans (gr_trans (gr_trans g1 g4) g5) g6)⟩
set_option maxHeartbeats 1000000 in
theorem rnew_79 (a b : Int) (ha : B64 a) (hb : B64 b) (w : World) :
    Calls Tryd.prog 15 #[.int .i64 79, .int .u64 a, .int .u64 b] w fun e w' => e = .returned (.int .u64 (newV 79 a b)) ∧ w.grownBy w' none := by
  have HK := Lib.hid (fun W => rSize_c 79 (by decide) W)
  rw [show szV 79 = 4 from by decide +kernel] at HK
  have HSa := Lib.hid (fun W => rSext_c a 32 ha (by decide) W)
  have HSb := Lib.hid (fun W => rSext_c b 32 hb (by decide) W)
  have ba := sextV_bd a 32 ha
  have bb := sextV_bd b 32 hb
  have HV := Lib.hid (ref_79 a b ha hb)
  have la : B64 (a % 4294967296) := by unfold B64 at *; omega
  have lb : B64 (b % 4294967296) := by unfold B64 at *; omega
  unfold B64 at *
  go_enter Tryd.func15, Tryd.ntmps15
  go_wp2_with fail
  refine (HK.out _).mono ?_
  rintro e w1 ⟨rfl, g1⟩
  go_wp2_with fail
  refine (HSa.out _).mono ?_
  rintro e w2 ⟨rfl, rfl⟩
  go_wp2_with fail
  refine (HSb.out _).mono ?_
  rintro e w3 ⟨rfl, rfl⟩
  go_wp2_with fail
  refine (HK.out _).mono ?_
  rintro e w4 ⟨rfl, g4⟩
  go_wp2_with fail
  refine (HK.out _).mono ?_
  rintro e w5 ⟨rfl, g5⟩
  go_wp2_with fail
  refine (HK.out _).mono ?_
  rintro e w6 ⟨rfl, g6⟩
  go_wp2_with fail
  go_ret
  exact ⟨ret_int (by first | exact HV.out.symm | (rw [HV.out]; simp)), (gr_trans (gr_trans (gr_trans g1 g4) g5) g6)⟩
set_option maxHeartbeats 1000000 in
theorem rnew_80 (a b : Int) (ha : B64 a) (hb : B64 b) (w : World) :
    Calls Tryd.prog 15 #[.int .i64 80, .int .u64 a, .int .u64 b] w fun e w' => e = .returned (.int .u64 (newV 80 a b)) ∧ w.grownBy w' none := by
  have HK := Lib.hid (fun W => rSize_c 80 (by decide) W)
  rw [show szV 80 = 4 from by decide +kernel] at HK
  have HSa := Lib.hid (fun W => rSext_c a 32 ha (by decide) W)
  have HSb := Lib.hid (fun W => rSext_c b 32 hb (by decide) W)
  have ba := sextV_bd a 32 ha
  have bb := sextV_bd b 32 hb
  have HV := Lib.hid (ref_80 a b ha hb)
  have la : B64 (a % 4294967296) := by unfold B64 at *; omega
  have lb : B64 (b % 4294967296) := by unfold B64 at *; omega
  unfold B64 at *
  go_enter Tryd.func15, Tryd.ntmps15
  go_wp2_with fail
  refine (HK.out _).mono ?_
  rintro e w1 ⟨rfl, g1⟩
  go_wp2_with fail
  refine (HSa.out _).mono ?_
  rintro e w2 ⟨rfl, rfl⟩
  go_wp2_with fail
  refine (HSb.out _).mono ?_
  rintro e w3 ⟨rfl, rfl⟩
  go_wp2_with fail
  refine (HK.out _).mono ?_
  rintro e w4 ⟨rfl, g4⟩
  go_wp2_with fail
  refine (HK.out _).mono ?_
  rintro e w5 ⟨rfl, g5⟩
  go_wp2_with fail
  refine (HK.out _).mono ?_
  rintro e w6 ⟨rfl, g6⟩
  go_wp2_with fail
  go_ret
  exact ⟨ret_int (by first | exact HV.out.symm | (rw [HV.out]; simp)), (gr_trans (gr_trans (gr_trans g1 g4) g5) g6)⟩
set_option maxHeartbeats 1000000 in
theorem rnew_81 (a b : Int) (ha : B64 a) (hb : B64 b) (w : World) :
    Calls Tryd.prog 15 #[.int .i64 81, .int .u64 a, .int .u64 b] w fun e w' => e = .returned (.int .u64 (newV 81 a b)) ∧ w.grownBy w' none := by
  have HK := Lib.hid (fun W => rSize_c 81 (by decide) W)
  rw [show szV 81 = 4 from by decide +kernel] at HK
  have HSa := Lib.hid (fun W => rSext_c a 32 ha (by decide) W)
  have HSb := Lib.hid (fun W => rSext_c b 32 hb (by decide) W)
  have ba := sextV_bd a 32 ha
  have bb := sextV_bd b 32 hb
  have HV := Lib.hid (ref_81 a b ha hb)
  have la : B64 (a % 4294967296) := by unfold B64 at *; omega
  have lb : B64 (b % 4294967296) := by unfold B64 at *; omega
  unfold B64 at *
  go_enter Tryd.func15, Tryd.ntmps15
  go_wp2_with fail
  refine (HK.out _).mono ?_
  rintro e w1 ⟨rfl, g1⟩
  go_wp2_with fail
  refine (HSa.out _).mono ?_
  rintro e w2 ⟨rfl, rfl⟩
  go_wp2_with fail
  refine (HSb.out _).mono ?_
  rintro e w3 ⟨rfl, rfl⟩
  go_wp2_with fail
  refine (HK.out _).mono ?_
  rintro e w4 ⟨rfl, g4⟩
  go_wp2_with fail
  refine (HK.out _).mono ?_
  rintro e w5 ⟨rfl, g5⟩
  go_wp2_with fail
  refine (HK.out _).mono ?_
  rintro e w6 ⟨rfl, g6⟩
  go_wp2_with fail
  go_ret
  exact ⟨ret_int (by first | exact HV.out.symm | (rw [HV.out]; simp)), (gr_trans (gr_trans (gr_trans g1 g4) g5) g6)⟩
set_option maxHeartbeats 1000000 in
theorem rnew_82 (a b : Int) (ha : B64 a) (hb : B64 b) (w : World) :
    Calls Tryd.prog 15 #[.int .i64 82, .int .u64 a, .int .u64 b] w fun e w' => e = .returned (.int .u64 (newV 82 a b)) ∧ w.grownBy w' none := by
  have HK := Lib.hid (fun W => rSize_c 82 (by decide) W)
  rw [show szV 82 = 4 from by decide +kernel] at HK
  have HSa := Lib.hid (fun W => rSext_c a 32 ha (by decide) W)
  have HSb := Lib.hid (fun W => rSext_c b 32 hb (by decide) W)
  have ba := sextV_bd a 32 ha
  have bb := sextV_bd b 32 hb
  have HV := Lib.hid (ref_82 a b ha hb)
  have la : B64 (a % 4294967296) := by unfold B64 at *; omega
  have lb : B64 (b % 4294967296) := by unfold B64 at *; omega
  unfold B64 at *
  go_enter Tryd.func15, Tryd.ntmps15
  go_wp2_with fail
  refine (HK.out _).mono ?_
  rintro e w1 ⟨rfl, g1⟩
  go_wp2_with fail
  refine (HSa.out _).mono ?_
  rintro e w2 ⟨rfl, rfl⟩
  go_wp2_with fail
  refine (HSb.out _).mono ?_
  rintro e w3 ⟨rfl, rfl⟩
  go_wp2_with fail
  refine (HK.out _).mono ?_
  rintro e w4 ⟨rfl, g4⟩
  go_wp2_with fail
  refine (HK.out _).mono ?_
  rintro e w5 ⟨rfl, g5⟩
  go_wp2_with fail
  refine (HK.out _).mono ?_
  rintro e w6 ⟨rfl, g6⟩
  go_wp2_with fail
  go_ret
  exact ⟨ret_int (by first | exact HV.out.symm | (rw [HV.out]; simp)), (gr_trans (gr_trans (gr_trans g1 g4) g5) g6)⟩
set_option maxHeartbeats 1000000 in
theorem rnew_83 (a b : Int) (ha : B64 a) (hb : B64 b) (w : World) :
    Calls Tryd.prog 15 #[.int .i64 83, .int .u64 a, .int .u64 b] w fun e w' => e = .returned (.int .u64 (newV 83 a b)) ∧ w.grownBy w' none := by
  have HK := Lib.hid (fun W => rSize_c 83 (by decide) W)
  rw [show szV 83 = 4 from by decide +kernel] at HK
  have HSa := Lib.hid (fun W => rSext_c a 32 ha (by decide) W)
  have HSb := Lib.hid (fun W => rSext_c b 32 hb (by decide) W)
  have ba := sextV_bd a 32 ha
  have bb := sextV_bd b 32 hb
  have HV := Lib.hid (ref_83 a b ha hb)
  generalize hx : sextV a 32 = x at *
  generalize hy : sextV b 32 = y at *
  clear hx hy
  have HB := Lib.hid (fun W => before_c y x true bb ba W)
  generalize befV y x true = z at *
  unfold B64 at *
  cases z
  all_goals
    go_enter Tryd.func15, Tryd.ntmps15
    go_wp2_with fail
    refine (HK.out _).mono ?_
    rintro e w1 ⟨rfl, g1⟩
    go_wp2_with fail
    refine (HSa.out _).mono ?_
    rintro e w2 ⟨rfl, rfl⟩
    go_wp2_with fail
    refine (HSb.out _).mono ?_
    rintro e w3 ⟨rfl, rfl⟩
    go_wp2_with fail
    refine (HK.out _).mono ?_
    rintro e w4 ⟨rfl, g4⟩
    go_wp2_with fail
    refine (HB.out _).mono ?_
    rintro e w5 ⟨rfl, rfl⟩
    go_wp2_with fail
    refine (HK.out _).mono ?_
    rintro e w6 ⟨rfl, g6⟩
    go_wp2_with fail
    go_ret
    exact ⟨ret_int (by first | exact HV.out.symm | (rw [HV.out]; simp)), (gr_trans (gr_trans g1 g4) g6)⟩
set_option maxHeartbeats 1000000 in
theorem rnew_84 (a b : Int) (ha : B64 a) (hb : B64 b) (w : World) :
    Calls Tryd.prog 15 #[.int .i64 84, .int .u64 a, .int .u64 b] w fun e w' => e = .returned (.int .u64 (newV 84 a b)) ∧ w.grownBy w' none := by
  have HK := Lib.hid (fun W => rSize_c 84 (by decide) W)
  rw [show szV 84 = 4 from by decide +kernel] at HK
  have HSa := Lib.hid (fun W => rSext_c a 32 ha (by decide) W)
  have HSb := Lib.hid (fun W => rSext_c b 32 hb (by decide) W)
  have ba := sextV_bd a 32 ha
  have bb := sextV_bd b 32 hb
  have HV := Lib.hid (ref_84 a b ha hb)
  generalize hx : sextV a 32 = x at *
  generalize hy : sextV b 32 = y at *
  clear hx hy
  have HB := Lib.hid (fun W => before_c x y true ba bb W)
  generalize befV x y true = z at *
  unfold B64 at *
  cases z
  all_goals
    go_enter Tryd.func15, Tryd.ntmps15
    go_wp2_with fail
    refine (HK.out _).mono ?_
    rintro e w1 ⟨rfl, g1⟩
    go_wp2_with fail
    refine (HSa.out _).mono ?_
    rintro e w2 ⟨rfl, rfl⟩
    go_wp2_with fail
    refine (HSb.out _).mono ?_
    rintro e w3 ⟨rfl, rfl⟩
    go_wp2_with fail
    refine (HK.out _).mono ?_
    rintro e w4 ⟨rfl, g4⟩
    go_wp2_with fail
    refine (HB.out _).mono ?_
    rintro e w5 ⟨rfl, rfl⟩
    go_wp2_with fail
    refine (HK.out _).mono ?_
    rintro e w6 ⟨rfl, g6⟩
    go_wp2_with fail
    go_ret
    exact ⟨ret_int (by first | exact HV.out.symm | (rw [HV.out]; simp)), (gr_trans (gr_trans g1 g4) g6)⟩
set_option maxHeartbeats 1000000 in
theorem rnew_85 (a b : Int) (ha : B64 a) (hb : B64 b) (w : World) :
    Calls Tryd.prog 15 #[.int .i64 85, .int .u64 a, .int .u64 b] w fun e w' => e = .returned (.int .u64 (newV 85 a b)) ∧ w.grownBy w' none := by
  have HK := Lib.hid (fun W => rSize_c 85 (by decide) W)
  rw [show szV 85 = 4 from by decide +kernel] at HK
  have HSa := Lib.hid (fun W => rSext_c a 32 ha (by decide) W)
  have HSb := Lib.hid (fun W => rSext_c b 32 hb (by decide) W)
  have ba := sextV_bd a 32 ha
  have bb := sextV_bd b 32 hb
  have HV := Lib.hid (ref_85 a b ha hb)
  have la : B64 (a % 4294967296) := by unfold B64 at *; omega
  have lb : B64 (b % 4294967296) := by unfold B64 at *; omega
  have HB := Lib.hid (fun W => before_c (b % 4294967296) (a % 4294967296) false lb la W)
  generalize befV (b % 4294967296) (a % 4294967296) false = z at *
  unfold B64 at *
  cases z
  all_goals
    go_enter Tryd.func15, Tryd.ntmps15
    go_wp2_with fail
    refine (HK.out _).mono ?_
    rintro e w1 ⟨rfl, g1⟩
    go_wp2_with fail
    refine (HSa.out _).mono ?_
    rintro e w2 ⟨rfl, rfl⟩
    go_wp2_with fail
    refine (HSb.out _).mono ?_
    rintro e w3 ⟨rfl, rfl⟩
    go_wp2_with fail
    refine (HK.out _).mono ?_
    rintro e w4 ⟨rfl, g4⟩
    go_wp2_with fail
    refine (HK.out _).mono ?_
    rintro e w5 ⟨rfl, g5⟩
    go_wp2_with fail
    refine (HB.out _).mono ?_
    rintro e w6 ⟨rfl, rfl⟩
    go_wp2_with fail
    refine (HK.out _).mono ?_
    rintro e w7 ⟨rfl, g7⟩
    go_wp2_with fail
    go_ret
    exact ⟨ret_int (by first | exact HV.out.symm | (rw [HV.out]; simp)), (gr_trans (gr_trans (gr_trans g1 g4) g5) g7)⟩
set_option maxHeartbeats 1000000 in
theorem rnew_86 (a b : Int) (ha : B64 a) (hb : B64 b) (w : World) :
    Calls Tryd.prog 15 #[.int .i64 86, .int .u64 a, .int .u64 b] w fun e w' => e = .returned (.int .u64 (newV 86 a b)) ∧ w.grownBy w' none := by
  have HK := Lib.hid (fun W => rSize_c 86 (by decide) W)
  rw [show szV 86 = 4 from by decide +kernel] at HK
  have HSa := Lib.hid (fun W => rSext_c a 32 ha (by decide) W)
  have HSb := Lib.hid (fun W => rSext_c b 32 hb (by decide) W)
  have ba := sextV_bd a 32 ha
  have bb := sextV_bd b 32 hb
  have HV := Lib.hid (ref_86 a b ha hb)
  have la : B64 (a % 4294967296) := by unfold B64 at *; omega
  have lb : B64 (b % 4294967296) := by unfold B64 at *; omega
  have HB := Lib.hid (fun W => before_c (a % 4294967296) (b % 4294967296) false la lb W)
  generalize befV (a % 4294967296) (b % 4294967296) false = z at *
  unfold B64 at *
  cases z
  all_goals
    go_enter Tryd.func15, Tryd.ntmps15
    go_wp2_with fail
    refine (HK.out _).mono ?_
    rintro e w1 ⟨rfl, g1⟩
    go_wp2_with fail
    refine (HSa.out _).mono ?_
    rintro e w2 ⟨rfl, rfl⟩
    go_wp2_with fail
    refine (HSb.out _).mono ?_
    rintro e w3 ⟨rfl, rfl⟩
    go_wp2_with fail
    refine (HK.out _).mono ?_
    rintro e w4 ⟨rfl, g4⟩
    go_wp2_with fail
    refine (HK.out _).mono ?_
    rintro e w5 ⟨rfl, g5⟩
    go_wp2_with fail
    refine (HB.out _).mono ?_
    rintro e w6 ⟨rfl, rfl⟩
    go_wp2_with fail
    refine (HK.out _).mono ?_
    rintro e w7 ⟨rfl, g7⟩
    go_wp2_with fail
    go_ret
    exact ⟨ret_int (by first | exact HV.out.symm | (rw [HV.out]; simp)), (gr_trans (gr_trans (gr_trans g1 g4) g5) g7)⟩
set_option maxHeartbeats 1000000 in
theorem rnew_87 (a b : Int) (ha : B64 a) (hb : B64 b) (w : World) :
    Calls Tryd.prog 15 #[.int .i64 87, .int .u64 a, .int .u64 b] w fun e w' => e = .returned (.int .u64 (newV 87 a b)) ∧ w.grownBy w' none := by
  have HK := Lib.hid (fun W => rSize_c 87 (by decide) W)
  rw [show szV 87 = 8 from by decide +kernel] at HK
  have HV := Lib.hid (ref_87 a b ha hb)
  unfold B64 at *
  go_enter Tryd.func15, Tryd.ntmps15
  go_wp2_with fail
  refine (HK.out _).mono ?_
  rintro e w1 ⟨rfl, g1⟩
  go_wp2_with fail
  refine (HK.out _).mono ?_
  rintro e w2 ⟨rfl, g2⟩
  go_wp2_with fail
  refine (HK.out _).mono ?_
  rintro e w3 ⟨rfl, g3⟩
  go_wp2_with fail
  refine (HK.out _).mono ?_
  rintro e w4 ⟨rfl, g4⟩
  go_wp2_with fail
  go_ret
  exact ⟨ret_int (by first | exact HV.out.symm | (rw [HV.out]; simp)), (gr_trans (gr_trans (gr_trans g1 g2) g3) g4)⟩
set_option maxHeartbeats 1000000 in
theorem rnew_88 (a b : Int) (ha : B64 a) (hb : B64 b) (w : World) :
    Calls Tryd.prog 15 #[.int .i64 88, .int .u64 a, .int .u64 b] w fun e w' => e = .returned (.int .u64 (newV 88 a b)) ∧ w.grownBy w' none := by
  have HK := Lib.hid (fun W => rSize_c 88 (by decide) W)
  rw [show szV 88 = 8 from by decide +kernel] at HK
  have HV := Lib.hid (ref_88 a b ha hb)
  unfold B64 at *
  go_enter Tryd.func15, Tryd.ntmps15
  go_wp2_with fail
  refine (HK.out _).mono ?_
  rintro e w1 ⟨rfl, g1⟩
  go_wp2_with fail
  refine (HK.out _).mono ?_
  rintro e w2 ⟨rfl, g2⟩
  go_wp2_with fail
  refine (HK.out _).mono ?_
  rintro e w3 ⟨rfl, g3⟩
  go_wp2_with fail
  refine (HK.out _).mono ?_
  rintro e w4 ⟨rfl, g4⟩
  go_wp2_with fail
  go_ret
  exact ⟨ret_int (by first | exact HV.out.symm | (rw [HV.out]; simp)), (gr_trans (gr_trans (gr_trans g1 g2) g3) g4)⟩
set_option maxHeartbeats 1000000 in
theorem rnew_89 (a b : Int) (ha : B64 a) (hb : B64 b) (w : World) :
    Calls Tryd.prog 15 #[.int .i64 89, .int .u64 a, .int .u64 b] w fun e w' => e = .returned (.int .u64 (newV 89 a b)) ∧ w.grownBy w' none := by
  have HK := Lib.hid (fun W => rSize_c 89 (by decide) W)
  rw [show szV 89 = 8 from by decide +kernel] at HK
  have HV := Lib.hid (ref_89 a b ha hb)
  unfold B64 at *
  go_enter Tryd.func15, Tryd.ntmps15
  go_wp2_with fail
  refine (HK.out _).mono ?_
  rintro e w1 ⟨rfl, g1⟩
  go_wp2_with fail
  refine (HK.out _).mono ?_
  rintro e w2 ⟨rfl, g2⟩
  go_wp2_with fail
  refine (HK.out _).mono ?_
  rintro e w3 ⟨rfl, g3⟩
  go_wp2_with fail
  refine (HK.out _).mono ?_
  rintro e w4 ⟨rfl, g4⟩
  go_wp2_with fail
  go_ret
  exact ⟨ret_int (by first | exact HV.out.symm | (rw [HV.out]; simp)), (gr_trans (gr_trans (gr_trans g1 g2) g3) g4)⟩
set_option maxHeartbeats 1000000 in
theorem rnew_90 (a b : Int) (ha : B64 a) (hb : B64 b) (w : World) :
    Calls Tryd.prog 15 #[.int .i64 90, .int .u64 a, .int .u64 b] w fun e w' => e = .returned (.int .u64 (newV 90 a b)) ∧ w.grownBy w' none := by
  have HK := Lib.hid (fun W => rSize_c 90 (by decide) W)
  rw [show szV 90 = 8 from by decide +kernel] at HK
  have HV := Lib.hid (ref_90 a b ha hb)
  unfold B64 at *
  go_enter Tryd.func15, Tryd.ntmps15
  go_wp2_with fail
  refine (HK.out _).mono ?_
  rintro e w1 ⟨rfl, g1⟩
  go_wp2_with fail
  refine (HK.out _).mono ?_
  rintro e w2 ⟨rfl, g2⟩
  go_wp2_with fail
  refine (HK.out _).mono ?_
  rintro e w3 ⟨rfl, g3⟩
  go_wp2_with fail
  refine (HK.out _).mono ?_
  rintro e w4 ⟨rfl, g4⟩
  go_wp2_with fail
  go_ret
  exact ⟨ret_int (by first | exact HV.out.symm | (rw [HV.out]; simp)), (gr_trans (gr_trans (gr_trans g1 g2) g3) g4)⟩
set_option maxHeartbeats 1000000 in
theorem rnew_91 (a b : Int) (ha : B64 a) (hb : B64 b) (w : World) :
    Calls Tryd.prog 15 #[.int .i64 91, .int .u64 a, .int .u64 b] w fun e w' => e = .returned (.int .u64 (newV 91 a b)) ∧ w.grownBy w' none := by
  have HK := Lib.hid (fun W => rSize_c 91 (by decide) W)
  rw [show szV 91 = 8 from by decide +kernel] at HK
  have HV := Lib.hid (ref_91 a b ha hb)
  unfold B64 at *
  go_enter Tryd.func15, Tryd.ntmps15
  go_wp2_with fail
  refine (HK.out _).mono ?_
  rintro e w1 ⟨rfl, g1⟩
  go_wp2_with fail
  refine (HK.out _).mono ?_
  rintro e w2 ⟨rfl, g2⟩
  go_wp2_with fail
  refine (HK.out _).mono ?_
  rintro e w3 ⟨rfl, g3⟩
  go_wp2_with fail
  refine (HK.out _).mono ?_
  rintro e w4 ⟨rfl, g4⟩
  go_wp2_with fail
  go_ret
  exact ⟨ret_int (by first | exact HV.out.symm | (rw [HV.out]; simp)), (gr_trans (gr_trans (gr_trans g1 g2) g3) g4)⟩
set_option maxHeartbeats 1000000 in
theorem rnew_92 (a b : Int) (ha : B64 a) (hb : B64 b) (w : World) :
    Calls Tryd.prog 15 #[.int .i64 92, .int .u64 a, .int .u64 b] w fun e w' => e = .returned (.int .u64 (newV 92 a b)) ∧ w.grownBy w' none := by
  have HK := Lib.hid (fun W => rSize_c 92 (by decide) W)
  rw [show szV 92 = 8 from by decide +kernel] at HK
  have HV := Lib.hid (ref_92 a b ha hb)
  unfold B64 at *
  go_enter Tryd.func15, Tryd.ntmps15
  go_wp2_with fail
  refine (HK.out _).mono ?_
  rintro e w1 ⟨rfl, g1⟩
  go_wp2_with fail
  refine (HK.out _).mono ?_
  rintro e w2 ⟨rfl, g2⟩
  go_wp2_with fail
  refine (HK.out _).mono ?_
  rintro e w3 ⟨rfl, g3⟩
  go_wp2_with fail
  refine (HK.out _).mono ?_
  rintro e w4 ⟨rfl, g4⟩
  go_wp2_with fail
  go_ret
  exact ⟨ret_int (by first | exact HV.out.symm | (rw [HV.out]; simp)), (gr_trans (gr_trans (gr_trans g1 g2) g3) g4)⟩
set_option maxHeartbeats 1000000 in
theorem rnew_93 (a b : Int) (ha : B64 a) (hb : B64 b) (w : World) :
    Calls Tryd.prog 15 #[.int .i64 93, .int .u64 a, .int .u64 b] w fun e w' => e = .returned (.int .u64 (newV 93 a b)) ∧ w.grownBy w' none := by
  have HK := Lib.hid (fun W => rSize_c 93 (by decide) W)
  rw [show szV 93 = 8 from by decide +kernel] at HK
  have HV := Lib.hid (ref_93 a b ha hb)
  unfold B64 at *
  go_enter Tryd.func15, Tryd.ntmps15
  go_wp2_with fail
  refine (HK.out _).mono ?_
  rintro e w1 ⟨rfl, g1⟩
  go_wp2_with fail
  refine (HK.out _).mono ?_
  rintro e w2 ⟨rfl, g2⟩
  go_wp2_with fail
  refine (HK.out _).mono ?_
  rintro e w3 ⟨rfl, g3⟩
  go_wp2_with fail
  refine (HK.out _).mono ?_
  rintro e w4 ⟨rfl, g4⟩
  go_wp2_with fail
  go_ret
  exact ⟨ret_int (by first | exact HV.out.symm | (rw [HV.out]; simp)), (gr_trans (gr_trans (gr_trans g1 g2) g3) g4)⟩
set_option maxHeartbeats 1000000 in
theorem rnew_94 (a b : Int) (ha : B64 a) (hb : B64 b) (w : World) :
    Calls Tryd.prog 15 #[.int .i64 94, .int .u64 a, .int .u64 b] w fun e w' => e = .returned (.int .u64 (newV 94 a b)) ∧ w.grownBy w' none := by
  have HK := Lib.hid (fun W => rSize_c 94 (by decide) W)
  rw [show szV 94 = 8 from by decide +kernel] at HK
  have HV := Lib.hid (ref_94 a b ha hb)
  have HB := Lib.hid (fun W => before_c b a true hb ha W)
  generalize befV b a true = z at *
  unfold B64 at *
  cases z
  all_goals
    go_enter Tryd.func15, Tryd.ntmps15
    go_wp2_with fail
    refine (HK.out _).mono ?_
    rintro e w1 ⟨rfl, g1⟩
    go_wp2_with fail
    refine (HK.out _).mono ?_
    rintro e w2 ⟨rfl, g2⟩
    go_wp2_with fail
    refine (HB.out _).mono ?_
    rintro e w3 ⟨rfl, rfl⟩
    go_wp2_with fail
    refine (HK.out _).mono ?_
    rintro e w4 ⟨rfl, g4⟩
    go_wp2_with fail
    go_ret
    exact ⟨ret_int (by first | exact HV.out.symm | (rw [HV.out]; simp)), (gr_trans (gr_trans g1 g2) g4)⟩
set_option maxHeartbeats 1000000 in
theorem rnew_95 (a b : Int) (ha : B64 a) (hb : B64 b) (w : World) :
    Calls Tryd.prog 15 #[.int .i64 95, .int .u64 a, .int .u64 b] w fun e w' => e = .returned (.int .u64 (newV 95 a b)) ∧ w.grownBy w' none := by
  have HK := Lib.hid (fun W => rSize_c 95 (by decide) W)
  rw [show szV 95 = 8 from by decide +kernel] at HK
  have HV := Lib.hid (ref_95 a b ha hb)
  have HB := Lib.hid (fun W => before_c a b true ha hb W)
  generalize befV a b true = z at *
  unfold B64 at *
  cases z
  all_goals
    go_enter Tryd.func15, Tryd.ntmps15
    go_wp2_with fail
    refine (HK.out _).mono ?_
    rintro e w1 ⟨rfl, g1⟩
    go_wp2_with fail
    refine (HK.out _).mono ?_
    rintro e w2 ⟨rfl, g2⟩
    go_wp2_with fail
    refine (HB.out _).mono ?_
    rintro e w3 ⟨rfl, rfl⟩
    go_wp2_with fail
    refine (HK.out _).mono ?_
    rintro e w4 ⟨rfl, g4⟩
    go_wp2_with fail
    go_ret
    exact ⟨ret_int (by first | exact HV.out.symm | (rw [HV.out]; simp)), (gr_trans (gr_trans g1 g2) g4)⟩
set_option maxHeartbeats 1000000 in
theorem rnew_96 (a b : Int) (ha : B64 a) (hb : B64 b) (w : World) :
    Calls Tryd.prog 15 #[.int .i64 96, .int .u64 a, .int .u64 b] w fun e w' => e = .returned (.int .u64 (newV 96 a b)) ∧ w.grownBy w' none := by
  have HK := Lib.hid (fun W => rSize_c 96 (by decide) W)
  rw [show szV 96 = 8 from by decide +kernel] at HK
  have HV := Lib.hid (ref_96 a b ha hb)
  have HB := Lib.hid (fun W => before_c b a false hb ha W)
  generalize befV b a false = z at *
  unfold B64 at *
  cases z
  all_goals
    go_enter Tryd.func15, Tryd.ntmps15
    go_wp2_with fail
    refine (HK.out _).mono ?_
    rintro e w1 ⟨rfl, g1⟩
    go_wp2_with fail
    refine (HK.out _).mono ?_
    rintro e w2 ⟨rfl, g2⟩
    go_wp2_with fail
    refine (HK.out _).mono ?_
    rintro e w3 ⟨rfl, g3⟩
    go_wp2_with fail
    refine (HB.out _).mono ?_
    rintro e w4 ⟨rfl, rfl⟩
    go_wp2_with fail
    refine (HK.out _).mono ?_
    rintro e w5 ⟨rfl, g5⟩
    go_wp2_with fail
    go_ret
    exact ⟨ret_int (by first | exact HV.out.symm | (rw [HV.out]; simp)), (gr_trans (gr_trans (gr_trans g1 g2) g3) g5)⟩
set_option maxHeartbeats 1000000 in
theorem rnew_97 (a b : Int) (ha : B64 a) (hb : B64 b) (w : World) :
    Calls Tryd.prog 15 #[.int .i64 97, .int .u64 a, .int .u64 b] w fun e w' => e = .returned (.int .u64 (newV 97 a b)) ∧ w.grownBy w' none := by
  have HK := Lib.hid (fun W => rSize_c 97 (by decide) W)
  rw [show szV 97 = 8 from by decide +kernel] at HK
  have HV := Lib.hid (ref_97 a b ha hb)
  have HB := Lib.hid (fun W => before_c a b false ha hb W)
  generalize befV a b false = z at *
  unfold B64 at *
  cases z
  all_goals
    go_enter Tryd.func15, Tryd.ntmps15
    go_wp2_with fail
    refine (HK.out _).mono ?_
    rintro e w1 ⟨rfl, g1⟩
    go_wp2_with fail
    refine (HK.out _).mono ?_
    rintro e w2 ⟨rfl, g2⟩
    go_wp2_with fail
    refine (HK.out _).mono ?_
    rintro e w3 ⟨rfl, g3⟩
    go_wp2_with fail
    refine (HB.out _).mono ?_
    rintro e w4 ⟨rfl, rfl⟩
    go_wp2_with fail
    refine (HK.out _).mono ?_
    rintro e w5 ⟨rfl, g5⟩
    go_wp2_with fail
    go_ret
    exact ⟨ret_int (by first | exact HV.out.symm | (rw [HV.out]; simp)), (gr_trans (gr_trans (gr_trans g1 g2) g3) g5)⟩
theorem rnew_0 (o a b : Int) (ho : -9223372036854775808 ≤ o ∧ o ≤ 9223372036854775807) (ha : B64 a) (hb : B64 b) (h : szV o = 0) (w : World) :
    Calls Tryd.prog 15 #[.int .i64 o, .int .u64 a, .int .u64 b] w fun e w' => e = .returned (.int .u64 (newV o a b)) ∧ w.grownBy w' none := by
  have HK := Lib.hid (fun W => rSize_c o ho W)
  have HV := Lib.hid (ref_none o a b h)
  rw [h] at HK
  clear h
  unfold B64 at *
  go_enter Tryd.func15, Tryd.ntmps15
  go_wp2_with fail
  refine (HK.out _).mono ?_
  rintro e w1 ⟨rfl, g1⟩
  go_wp2_with fail
  refine (HK.out _).mono ?_
  rintro e w2 ⟨rfl, g2⟩
  go_wp2_with fail
  go_ret
  exact ⟨ret_int HV.out.symm, gr_trans g1 g2⟩
theorem rNew_c (o a b : Int) (ho : -9223372036854775808 ≤ o ∧ o ≤ 9223372036854775807) (ha : B64 a) (hb : B64 b) (w : World) :
    Calls Tryd.prog 15 #[.int .i64 o, .int .u64 a, .int .u64 b] w fun e w' => e = .returned (.int .u64 (newV o a b)) ∧ w.grownBy w' none := by
  by_cases h : 76 ≤ o ∧ o ≤ 97
  · have h22 : o = 76 ∨ o = 77 ∨ o = 78 ∨ o = 79 ∨ o = 80 ∨ o = 81 ∨ o = 82 ∨ o = 83 ∨ o = 84 ∨ o = 85 ∨ o = 86 ∨ o = 87 ∨ o = 88 ∨ o = 89 ∨ o = 90 ∨ o = 91 ∨ o = 92 ∨ o = 93 ∨ o = 94 ∨ o = 95 ∨ o = 96 ∨ o = 97 := by omega
    rcases h22 with rfl | rfl | rfl | rfl | rfl | rfl | rfl | rfl | rfl | rfl | rfl | rfl | rfl | rfl | rfl | rfl | rfl | rfl | rfl | rfl | rfl | rfl
    · exact rnew_76 a b ha hb w
    · exact rnew_77 a b ha hb w
    · exact rnew_78 a b ha hb w
    · exact rnew_79 a b ha hb w
    · exact rnew_80 a b ha hb w
    · exact rnew_81 a b ha hb w
    · exact rnew_82 a b ha hb w
    · exact rnew_83 a b ha hb w
    · exact rnew_84 a b ha hb w
    · exact rnew_85 a b ha hb w
    · exact rnew_86 a b ha hb w
    · exact rnew_87 a b ha hb w
    · exact rnew_88 a b ha hb w
    · exact rnew_89 a b ha hb w
    · exact rnew_90 a b ha hb w
    · exact rnew_91 a b ha hb w
    · exact rnew_92 a b ha hb w
    · exact rnew_93 a b ha hb w
    · exact rnew_94 a b ha hb w
    · exact rnew_95 a b ha hb w
    · exact rnew_96 a b ha hb w
    · exact rnew_97 a b ha hb w
  · exact rnew_0 o a b ho ha hb (sz_none o h) w
end Go.Proofs.YtaanmebebapbpaaDoor
