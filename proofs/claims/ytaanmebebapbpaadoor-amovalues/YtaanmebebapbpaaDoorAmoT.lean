/-
  The table of package amo, what stands in memory behind an op, what a register is told, how many bytes an op has: contracts over the program's translation.
  Conditions: the arguments are numbers of their kinds; the table of decode's kinds holds what its text lays.
-/
import Derived.Test.YtaanmebebapbpaaDoorAmoM
namespace Go.Proofs.YtaanmebebapbpaaDoor
open Go Go.RowKit Go.Maps W M D A
set_option linter.unusedVariables false

theorem second_d (w : World) : Does w (.func (.func 38) #[] #[]) sndV := ⟨_, _, rfl, fun _ _ => by kernel_rfl, fun _ _ _ hb => hb, fun w' _ a b ha hb => still (second_c a b ha hb w')⟩
theorem sum_d (w : World) : Does w (.func (.func 39) #[] #[]) sumV := ⟨_, _, rfl, fun _ _ => by kernel_rfl, fun a b _ _ => sum_bd a b, fun w' _ a b ha hb => still (sum_c a b ha hb w')⟩
theorem xor_d (w : World) : Does w (.func (.func 40) #[] #[]) xorV := ⟨_, _, rfl, fun _ _ => by kernel_rfl, fun _ _ ha hb => xor_bd ha hb, fun w' _ a b ha hb => still (xor_c a b ha hb w')⟩
theorem and_d (w : World) : Does w (.func (.func 41) #[] #[]) andV := ⟨_, _, rfl, fun _ _ => by kernel_rfl, fun _ _ ha hb => and_bd ha hb, fun w' _ a b ha hb => still (and_c a b ha hb w')⟩
theorem or_d (w : World) : Does w (.func (.func 42) #[] #[]) orV := ⟨_, _, rfl, fun _ _ => by kernel_rfl, fun _ _ ha hb => or_bd ha hb, fun w' _ a b ha hb => still (or_c a b ha hb w')⟩
theorem smallerSigned_d (w : World) : Does w (.func (.func 43) #[] #[]) minS := ⟨_, _, rfl, fun _ _ => by kernel_rfl, fun _ _ ha hb => minS_bd ha hb, fun w' _ a b ha hb => still (smallerSigned_c a b ha hb w')⟩
theorem greaterSigned_d (w : World) : Does w (.func (.func 44) #[] #[]) maxS := ⟨_, _, rfl, fun _ _ => by kernel_rfl, fun _ _ ha hb => maxS_bd ha hb, fun w' _ a b ha hb => still (greaterSigned_c a b ha hb w')⟩
theorem smaller_d (w : World) : Does w (.func (.func 45) #[] #[]) minU := ⟨_, _, rfl, fun _ _ => by kernel_rfl, fun _ _ ha hb => min_bd ha hb, fun w' _ a b ha hb => still (smaller_c a b ha hb w')⟩
theorem greater_d (w : World) : Does w (.func (.func 46) #[] #[]) maxU := ⟨_, _, rfl, fun _ _ => by kernel_rfl, fun _ _ ha hb => max_bd ha hb, fun w' _ a b ha hb => still (greater_c a b ha hb w')⟩
set_option maxHeartbeats 400000 in
theorem works_c (w : World) : Calls Tryd.prog 37 #[] w (GivesM Does w tWork) := by
  have hmm := @run_makeMap Tryd.prog
  have o0 := World.ownsMap_made w Tryd.prog 3 anyElem
  have z0 := gr_alloc (gr_refl w (some w.heap.size)) (.map #[] 0)
  obtain ⟨w1, r1, o1, g1, c1⟩ := updF Tryd.underlying73 o0 (by decide) 88 (by decide) (.func (.func 38) #[] #[])
  have z1 := gr_trans z0 g1
  obtain ⟨w2, r2, o2, g2, c2⟩ := updF Tryd.underlying73 o1 (by decide) 89 (by decide) (.func (.func 38) #[] #[])
  have z2 := gr_trans z1 g2
  obtain ⟨w3, r3, o3, g3, c3⟩ := updF Tryd.underlying73 o2 (by decide) 90 (by decide) (.func (.func 39) #[] #[])
  have z3 := gr_trans z2 g3
  obtain ⟨w4, r4, o4, g4, c4⟩ := updF Tryd.underlying73 o3 (by decide) 91 (by decide) (.func (.func 40) #[] #[])
  have z4 := gr_trans z3 g4
  obtain ⟨w5, r5, o5, g5, c5⟩ := updF Tryd.underlying73 o4 (by decide) 92 (by decide) (.func (.func 41) #[] #[])
  have z5 := gr_trans z4 g5
  obtain ⟨w6, r6, o6, g6, c6⟩ := updF Tryd.underlying73 o5 (by decide) 93 (by decide) (.func (.func 42) #[] #[])
  have z6 := gr_trans z5 g6
  obtain ⟨w7, r7, o7, g7, c7⟩ := updF Tryd.underlying73 o6 (by decide) 94 (by decide) (.func (.func 43) #[] #[])
  have z7 := gr_trans z6 g7
  obtain ⟨w8, r8, o8, g8, c8⟩ := updF Tryd.underlying73 o7 (by decide) 95 (by decide) (.func (.func 44) #[] #[])
  have z8 := gr_trans z7 g8
  obtain ⟨w9, r9, o9, g9, c9⟩ := updF Tryd.underlying73 o8 (by decide) 96 (by decide) (.func (.func 45) #[] #[])
  have z9 := gr_trans z8 g9
  obtain ⟨w10, r10, o10, g10, c10⟩ := updF Tryd.underlying73 o9 (by decide) 97 (by decide) (.func (.func 46) #[] #[])
  have z10 := gr_trans z9 g10
  go_enter Tryd.func37, Tryd.ntmps37
  go_wp2_with fail
  go_ret
  exact ⟨_, rfl, Or.inr ⟨_, _, [(97, (.func (.func 46) #[] #[])), (96, (.func (.func 45) #[] #[])), (95, (.func (.func 44) #[] #[])), (94, (.func (.func 43) #[] #[])), (93, (.func (.func 42) #[] #[])), (92, (.func (.func 41) #[] #[])), (91, (.func (.func 40) #[] #[])), (90, (.func (.func 39) #[] #[])), (89, (.func (.func 38) #[] #[])), (88, (.func (.func 38) #[] #[]))], rfl, o10, ⟨rfl, greater_d _, ⟨rfl, smaller_d _, ⟨rfl, greaterSigned_d _, ⟨rfl, smallerSigned_d _, ⟨rfl, or_d _, ⟨rfl, and_d _, ⟨rfl, xor_d _, ⟨rfl, sum_d _, ⟨rfl, second_d _, ⟨rfl, second_d _, trivial⟩⟩⟩⟩⟩⟩⟩⟩⟩⟩⟩, gr_row z10 (Nat.le_refl _)⟩

set_option maxHeartbeats 1000000 in
theorem double_c (o a b : Int) (ho : -9223372036854775808 ≤ o ∧ o ≤ 9223372036854775807) (ha : B64 a) (hb : B64 b) (w : World) :
    Calls Tryd.prog 31 #[.int .i64 o, .int .u64 a, .int .u64 b] w fun e w' => e = .returned (.int .u64 (dblV o a b)) ∧ w.grownBy w' none := by
  have HA := Lib.hid ha
  have HB := Lib.hid hb
  unfold B64 at ha hb
  go_enter Tryd.func31, Tryd.ntmps31
  go_wp2_with fail
  refine (works_c _).mono ?_
  rintro e w1 ⟨m, rfl, hT, hG⟩
  rcases hT.lookT Tryd.underlying73 (zeroW _) o ho with ⟨hr, e0⟩ | ⟨v, f, hr, e0, hD⟩
  · have EZ := Lib.hid (show dblV o a b = a by rw [dblV, e0])
    have HG := Lib.hid hG
    clear hG hT e0
    go_wp2_with fail
    go_ret
    exact ⟨ret_int EZ.out.symm, HG.out⟩
  · have EZ := Lib.hid (show dblV o a b = f a b by rw [dblV, e0])
    obtain ⟨k, cap, rfl, hop, hbd, hc⟩ := hD
    unfold Opens at hop
    have HC := Lib.hid (hc w1 (cel_refl _) a b HA.out HB.out)
    have HG := Lib.hid hG
    clear hG hT e0 hc hbd
    go_wp2_with fail
    refine HC.out.mono ?_
    rintro e w2 ⟨rfl, hG2⟩
    go_wp2_with fail
    go_ret
    exact ⟨ret_int EZ.out.symm, gr_trans HG.out hG2⟩
set_option maxHeartbeats 1000000 in
theorem Size_c (o : Int) (ho : -9223372036854775808 ≤ o ∧ o ≤ 9223372036854775807) (w : World) (h : Tbl w) :
    Calls Tryd.prog 10 #[.int .i64 o] w fun e w' => e = .returned (.int .i64 (szV o)) ∧ w = w' := by
  have HK := Lib.hid (fun W (hW : Tbl W) => Kind_c o ho W hW)
  have HT := Lib.hid h
  clear h
  unfold szV
  generalize kindV o = k at *
  by_cases h13 : k = 13
  · subst h13
    rw [if_pos rfl]
    go_enter Tryd.func10, Tryd.ntmps10
    go_wp2_with fail
    refine (HK.out _ HT.out).mono ?_
    rintro e w' ⟨rfl, rfl⟩
    go_wp2_with fail
    go_ret
    exact ⟨rfl, rfl⟩
  rw [if_neg h13]
  have d13 : (k == 13) = false := by simpa using h13
  by_cases h14 : k = 14
  · subst h14
    rw [if_pos rfl]
    go_enter Tryd.func10, Tryd.ntmps10
    go_wp2_with fail
    refine (HK.out _ HT.out).mono ?_
    rintro e w' ⟨rfl, rfl⟩
    go_wp2_with fail
    go_ret
    exact ⟨rfl, rfl⟩
  rw [if_neg h14]
  have d14 : (k == 14) = false := by simpa using h14
  go_enter Tryd.func10, Tryd.ntmps10
  go_wp2_with fail
  refine (HK.out _ HT.out).mono ?_
  rintro e w' ⟨rfl, rfl⟩
  go_wp2_with fail
  go_ret
  exact ⟨rfl, rfl⟩
set_option maxHeartbeats 1000000 in
theorem Told_c (o a : Int) (ho : -9223372036854775808 ≤ o ∧ o ≤ 9223372036854775807) (ha : B64 a) (w : World) (h : Tbl w) :
    Calls Tryd.prog 12 #[.int .i64 o, .int .u64 a] w fun e w' => e = .returned (.int .u64 (toldV o a)) ∧ w = w' := by
  have HK := Lib.hid (fun W (hW : Tbl W) => Kind_c o ho W hW)
  have HT := Lib.hid h
  have HS := Lib.hid (fun W => Sext_c a 32 ha (by decide) W)
  clear h
  unfold toldV
  unfold B64 at ha
  generalize kindV o = k at *
  by_cases h13 : k = 13
  · subst h13
    rw [if_pos rfl]
    go_enter Tryd.func12, Tryd.ntmps12
    go_wp2_with fail
    refine (HK.out _ HT.out).mono ?_
    rintro e w' ⟨rfl, rfl⟩
    go_wp2_with fail
    refine (HS.out _).mono ?_
    rintro e w' ⟨rfl, rfl⟩
    go_wp2_with fail
    go_ret
    exact ⟨rfl, rfl⟩
  rw [if_neg h13]
  have d13 : (k == 13) = false := by simpa using h13
  go_enter Tryd.func12, Tryd.ntmps12
  go_wp2_with fail
  refine (HK.out _ HT.out).mono ?_
  rintro e w' ⟨rfl, rfl⟩
  go_wp2_with fail
  go_ret
  exact ⟨rfl, rfl⟩
set_option maxHeartbeats 1000000 in
theorem New_c (o a b : Int) (ho : -9223372036854775808 ≤ o ∧ o ≤ 9223372036854775807) (ha : B64 a) (hb : B64 b) (w : World) (h : Tbl w) :
    Calls Tryd.prog 14 #[.int .i64 o, .int .u64 a, .int .u64 b] w fun e w' => e = .returned (.int .u64 (newV o a b)) ∧ w.grownBy w' none := by
  have HK := Lib.hid (fun W (hW : Tbl W) => Kind_c o ho W hW)
  have HT := Lib.hid h
  by_cases h13 : kindV o = 13
  · have HS := Lib.hid (fun W hW => Told_c o a ho ha W hW)
    have HS2 := Lib.hid (fun W hW => Told_c o b ho hb W hW)
    have hr : 75 < o ∧ o ≤ 86 := kind13 o h13
    have HD := Lib.hid (fun W => double_c (o + 11) (toldV o a) (toldV o b) (by omega) (told_bd ha) (told_bd hb) W)
    have hv : newV o a b = dblV (o + 11) (toldV o a) (toldV o b) % 4294967296 := by rw [newV, if_pos h13]
    have hz := dbl_bd (o := o + 11) (told_bd (o := o) ha) (told_bd (o := o) hb)
    rw [hv]
    have ta := told_bd (o := o) ha
    have tb := told_bd (o := o) hb
    rw [h13] at HK
    clear hv h13 h
    unfold B64 at ha hb hz ta tb
    generalize dblV (o + 11) (toldV o a) (toldV o b) = z at *
    generalize toldV o a = x at *
    generalize toldV o b = y at *
    go_enter Tryd.func14, Tryd.ntmps14
    go_wp2_with fail
    refine (HK.out _ HT.out).mono ?_
    rintro e w' ⟨rfl, rfl⟩
    go_wp2_with fail
    refine (HS.out _ HT.out).mono ?_
    rintro e w' ⟨rfl, rfl⟩
    go_wp2_with fail
    refine (HS2.out _ HT.out).mono ?_
    rintro e w' ⟨rfl, rfl⟩
    go_wp2_with fail
    refine (HD.out _).mono ?_
    rintro e w' ⟨rfl, hG⟩
    go_wp2_with fail
    go_ret
    exact ⟨rfl, hG⟩
  have HD := Lib.hid (fun W => double_c o a b ho ha hb W)
  have hv : newV o a b = dblV o a b := by rw [newV, if_neg h13]
  rw [hv]
  clear hv h
  have d13 : (kindV o == 13) = false := by simpa using h13
  generalize kindV o = k at *
  generalize dblV o a b = z at *
  unfold B64 at ha hb
  go_enter Tryd.func14, Tryd.ntmps14
  go_wp2_with fail
  refine (HK.out _ HT.out).mono ?_
  rintro e w' ⟨rfl, rfl⟩
  go_wp2_with fail
  refine (HD.out _).mono ?_
  rintro e w' ⟨rfl, hG⟩
  go_wp2_with fail
  go_ret
  exact ⟨rfl, hG⟩
end Go.Proofs.YtaanmebebapbpaaDoor
