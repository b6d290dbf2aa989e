/-
  The tables of package alu: contracts over the program's translation.
  Conditions: none.
-/
import Derived.Test.YtmabfocpcbaniaaDoorAluM
namespace Go.Proofs.YtmabfocpcbaniaaDoor
open Go Go.RowKit Go.Maps W M D A
set_option linter.unusedVariables false

set_option maxHeartbeats 400000 in
theorem numbers_c (w : World) : Calls Tryd.prog 23 #[] w (GivesM Does w tNum) := by
  have hmm := @run_makeMap Tryd.prog
  have o0 := World.ownsMap_made w Tryd.prog 3 anyElem
  have z0 := gr_alloc (gr_refl w (some w.heap.size)) (.map #[] 0)
  obtain ⟨w1, r1, o1, g1, c1⟩ := updF Tryd.underlying42 o0 (by decide) 22 (by decide) (.func (.func 41) #[] #[])
  have z1 := gr_trans z0 g1
  obtain ⟨w2, r2, o2, g2, c2⟩ := updF Tryd.underlying42 o1 (by decide) 25 (by decide) (.func (.func 42) #[] #[])
  have z2 := gr_trans z1 g2
  obtain ⟨w3, r3, o3, g3, c3⟩ := updF Tryd.underlying42 o2 (by decide) 26 (by decide) (.func (.func 43) #[] #[])
  have z3 := gr_trans z2 g3
  obtain ⟨w4, r4, o4, g4, c4⟩ := updF Tryd.underlying42 o3 (by decide) 27 (by decide) (.func (.func 44) #[] #[])
  have z4 := gr_trans z3 g4
  go_enter Tryd.func23, Tryd.ntmps23
  go_wp2_with fail
  refine (flag_c _ (lessS_t _)).mono ?_
  rintro e w5 ⟨v5, rfl, d5, h5⟩
  have o5 := o4.kept h5 (by simp)
  have c5 := cel_gr h5
  have z5 := gr_trans z4 (gr_none h5 _)
  obtain ⟨w6, r6, o6, g6, c6⟩ := updF Tryd.underlying42 o5 (by decide) 23 (by decide) v5
  have z6 := gr_trans z5 g6
  go_wp2_with fail
  refine (flag_c _ (less_t _)).mono ?_
  rintro e w7 ⟨v7, rfl, d7, h7⟩
  have o7 := o6.kept h7 (by simp)
  have c7 := cel_gr h7
  have z7 := gr_trans z6 (gr_none h7 _)
  obtain ⟨w8, r8, o8, g8, c8⟩ := updF Tryd.underlying42 o7 (by decide) 24 (by decide) v7
  have z8 := gr_trans z7 g8
  go_wp2_with fail
  refine (shift_c 0 (by decide) _).mono ?_
  rintro e w9 ⟨v9, rfl, d9, h9⟩
  have o9 := o8.kept h9 (by simp)
  have c9 := cel_gr h9
  have z9 := gr_trans z8 (gr_none h9 _)
  obtain ⟨w10, r10, o10, g10, c10⟩ := updF Tryd.underlying42 o9 (by decide) 28 (by decide) v9
  have z10 := gr_trans z9 g10
  go_wp2_with fail
  refine (shift_c 1 (by decide) _).mono ?_
  rintro e w11 ⟨v11, rfl, d11, h11⟩
  have o11 := o10.kept h11 (by simp)
  have c11 := cel_gr h11
  have z11 := gr_trans z10 (gr_none h11 _)
  obtain ⟨w12, r12, o12, g12, c12⟩ := updF Tryd.underlying42 o11 (by decide) 29 (by decide) v11
  have z12 := gr_trans z11 g12
  go_wp2_with fail
  refine (shift_c 2 (by decide) _).mono ?_
  rintro e w13 ⟨v13, rfl, d13, h13⟩
  have o13 := o12.kept h13 (by simp)
  have c13 := cel_gr h13
  have z13 := gr_trans z12 (gr_none h13 _)
  obtain ⟨w14, r14, o14, g14, c14⟩ := updF Tryd.underlying42 o13 (by decide) 30 (by decide) v13
  have z14 := gr_trans z13 g14
  go_wp2_with fail
  go_ret
  exact ⟨_, rfl, Or.inr ⟨_, _, [(30, v13), (29, v11), (28, v9), (24, v7), (23, v5), (27, (.func (.func 44) #[] #[])), (26, (.func (.func 43) #[] #[])), (25, (.func (.func 42) #[] #[])), (22, (.func (.func 41) #[] #[]))], rfl, o14, ⟨rfl, d13.grown c14, ⟨rfl, d11.grown ((c12.trans c13).trans c14), ⟨rfl, d9.grown ((((c10.trans c11).trans c12).trans c13).trans c14), ⟨rfl, d7.grown ((((((c8.trans c9).trans c10).trans c11).trans c12).trans c13).trans c14), ⟨rfl, d5.grown ((((((((c6.trans c7).trans c8).trans c9).trans c10).trans c11).trans c12).trans c13).trans c14), ⟨rfl, and_d _, ⟨rfl, or_d _, ⟨rfl, xor_d _, ⟨rfl, sum_d _, trivial⟩⟩⟩⟩⟩⟩⟩⟩⟩⟩, gr_row z14 (Nat.le_refl _)⟩
set_option maxHeartbeats 400000 in
theorem registers_c (w : World) : Calls Tryd.prog 24 #[] w (GivesM Does w tReg) := by
  have hmm := @run_makeMap Tryd.prog
  have o0 := World.ownsMap_made w Tryd.prog 3 anyElem
  have z0 := gr_alloc (gr_refl w (some w.heap.size)) (.map #[] 0)
  obtain ⟨w1, r1, o1, g1, c1⟩ := updF Tryd.underlying42 o0 (by decide) 31 (by decide) (.func (.func 41) #[] #[])
  have z1 := gr_trans z0 g1
  obtain ⟨w2, r2, o2, g2, c2⟩ := updF Tryd.underlying42 o1 (by decide) 32 (by decide) (.func (.func 47) #[] #[])
  have z2 := gr_trans z1 g2
  obtain ⟨w3, r3, o3, g3, c3⟩ := updF Tryd.underlying42 o2 (by decide) 36 (by decide) (.func (.func 42) #[] #[])
  have z3 := gr_trans z2 g3
  obtain ⟨w4, r4, o4, g4, c4⟩ := updF Tryd.underlying42 o3 (by decide) 39 (by decide) (.func (.func 43) #[] #[])
  have z4 := gr_trans z3 g4
  obtain ⟨w5, r5, o5, g5, c5⟩ := updF Tryd.underlying42 o4 (by decide) 40 (by decide) (.func (.func 44) #[] #[])
  have z5 := gr_trans z4 g5
  go_enter Tryd.func24, Tryd.ntmps24
  go_wp2_with fail
  refine (flag_c _ (lessS_t _)).mono ?_
  rintro e w6 ⟨v6, rfl, d6, h6⟩
  have o6 := o5.kept h6 (by simp)
  have c6 := cel_gr h6
  have z6 := gr_trans z5 (gr_none h6 _)
  obtain ⟨w7, r7, o7, g7, c7⟩ := updF Tryd.underlying42 o6 (by decide) 34 (by decide) v6
  have z7 := gr_trans z6 g7
  go_wp2_with fail
  refine (flag_c _ (less_t _)).mono ?_
  rintro e w8 ⟨v8, rfl, d8, h8⟩
  have o8 := o7.kept h8 (by simp)
  have c8 := cel_gr h8
  have z8 := gr_trans z7 (gr_none h8 _)
  obtain ⟨w9, r9, o9, g9, c9⟩ := updF Tryd.underlying42 o8 (by decide) 35 (by decide) v8
  have z9 := gr_trans z8 g9
  go_wp2_with fail
  refine (shift_c 0 (by decide) _).mono ?_
  rintro e w10 ⟨v10, rfl, d10, h10⟩
  have o10 := o9.kept h10 (by simp)
  have c10 := cel_gr h10
  have z10 := gr_trans z9 (gr_none h10 _)
  obtain ⟨w11, r11, o11, g11, c11⟩ := updF Tryd.underlying42 o10 (by decide) 33 (by decide) v10
  have z11 := gr_trans z10 g11
  go_wp2_with fail
  refine (shift_c 1 (by decide) _).mono ?_
  rintro e w12 ⟨v12, rfl, d12, h12⟩
  have o12 := o11.kept h12 (by simp)
  have c12 := cel_gr h12
  have z12 := gr_trans z11 (gr_none h12 _)
  obtain ⟨w13, r13, o13, g13, c13⟩ := updF Tryd.underlying42 o12 (by decide) 37 (by decide) v12
  have z13 := gr_trans z12 g13
  go_wp2_with fail
  refine (shift_c 2 (by decide) _).mono ?_
  rintro e w14 ⟨v14, rfl, d14, h14⟩
  have o14 := o13.kept h14 (by simp)
  have c14 := cel_gr h14
  have z14 := gr_trans z13 (gr_none h14 _)
  obtain ⟨w15, r15, o15, g15, c15⟩ := updF Tryd.underlying42 o14 (by decide) 38 (by decide) v14
  have z15 := gr_trans z14 g15
  go_wp2_with fail
  go_ret
  exact ⟨_, rfl, Or.inr ⟨_, _, [(38, v14), (37, v12), (33, v10), (35, v8), (34, v6), (40, (.func (.func 44) #[] #[])), (39, (.func (.func 43) #[] #[])), (36, (.func (.func 42) #[] #[])), (32, (.func (.func 47) #[] #[])), (31, (.func (.func 41) #[] #[]))], rfl, o15, ⟨rfl, d14.grown c15, ⟨rfl, d12.grown ((c13.trans c14).trans c15), ⟨rfl, d10.grown ((((c11.trans c12).trans c13).trans c14).trans c15), ⟨rfl, d8.grown ((((((c9.trans c10).trans c11).trans c12).trans c13).trans c14).trans c15), ⟨rfl, d6.grown ((((((((c7.trans c8).trans c9).trans c10).trans c11).trans c12).trans c13).trans c14).trans c15), ⟨rfl, and_d _, ⟨rfl, or_d _, ⟨rfl, xor_d _, ⟨rfl, dif_d _, ⟨rfl, sum_d _, trivial⟩⟩⟩⟩⟩⟩⟩⟩⟩⟩⟩, gr_row z15 (Nat.le_refl _)⟩
set_option maxHeartbeats 400000 in
theorem numbers32_c (w : World) : Calls Tryd.prog 25 #[] w (GivesM Does w tNum32) := by
  have hmm := @run_makeMap Tryd.prog
  have o0 := World.ownsMap_made w Tryd.prog 3 anyElem
  have z0 := gr_alloc (gr_refl w (some w.heap.size)) (.map #[] 0)
  go_enter Tryd.func25, Tryd.ntmps25
  go_wp2_with fail
  refine (lower_c _ (sum_d _)).mono ?_
  rintro e w1 ⟨v1, rfl, d1, h1⟩
  have o1 := o0.kept h1 (by simp)
  have c1 := cel_gr h1
  have z1 := gr_trans z0 (gr_none h1 _)
  obtain ⟨w2, r2, o2, g2, c2⟩ := updF Tryd.underlying42 o1 (by decide) 41 (by decide) v1
  have z2 := gr_trans z1 g2
  go_wp2_with fail
  refine (shift32_c 0 (by decide) low_r _).mono ?_
  rintro e w3 ⟨v3, rfl, d3, h3⟩
  have o3 := o2.kept h3 (by simp)
  have c3 := cel_gr h3
  have z3 := gr_trans z2 (gr_none h3 _)
  obtain ⟨w4, r4, o4, g4, c4⟩ := updF Tryd.underlying42 o3 (by decide) 42 (by decide) v3
  have z4 := gr_trans z3 g4
  go_wp2_with fail
  refine (shift32_c 1 (by decide) low_r _).mono ?_
  rintro e w5 ⟨v5, rfl, d5, h5⟩
  have o5 := o4.kept h5 (by simp)
  have c5 := cel_gr h5
  have z5 := gr_trans z4 (gr_none h5 _)
  obtain ⟨w6, r6, o6, g6, c6⟩ := updF Tryd.underlying42 o5 (by decide) 43 (by decide) v5
  have z6 := gr_trans z5 g6
  go_wp2_with fail
  refine (shift32_c 2 (by decide) lowS_r _).mono ?_
  rintro e w7 ⟨v7, rfl, d7, h7⟩
  have o7 := o6.kept h7 (by simp)
  have c7 := cel_gr h7
  have z7 := gr_trans z6 (gr_none h7 _)
  obtain ⟨w8, r8, o8, g8, c8⟩ := updF Tryd.underlying42 o7 (by decide) 44 (by decide) v7
  have z8 := gr_trans z7 g8
  go_wp2_with fail
  go_ret
  exact ⟨_, rfl, Or.inr ⟨_, _, [(44, v7), (43, v5), (42, v3), (41, v1)], rfl, o8, ⟨rfl, d7.grown c8, ⟨rfl, d5.grown ((c6.trans c7).trans c8), ⟨rfl, d3.grown ((((c4.trans c5).trans c6).trans c7).trans c8), ⟨rfl, d1.grown ((((((c2.trans c3).trans c4).trans c5).trans c6).trans c7).trans c8), trivial⟩⟩⟩⟩⟩, gr_row z8 (Nat.le_refl _)⟩
set_option maxHeartbeats 400000 in
theorem registers32_c (w : World) : Calls Tryd.prog 26 #[] w (GivesM Does w tReg32) := by
  have hmm := @run_makeMap Tryd.prog
  have o0 := World.ownsMap_made w Tryd.prog 3 anyElem
  have z0 := gr_alloc (gr_refl w (some w.heap.size)) (.map #[] 0)
  go_enter Tryd.func26, Tryd.ntmps26
  go_wp2_with fail
  refine (lower_c _ (sum_d _)).mono ?_
  rintro e w1 ⟨v1, rfl, d1, h1⟩
  have o1 := o0.kept h1 (by simp)
  have c1 := cel_gr h1
  have z1 := gr_trans z0 (gr_none h1 _)
  obtain ⟨w2, r2, o2, g2, c2⟩ := updF Tryd.underlying42 o1 (by decide) 45 (by decide) v1
  have z2 := gr_trans z1 g2
  go_wp2_with fail
  refine (lower_c _ (dif_d _)).mono ?_
  rintro e w3 ⟨v3, rfl, d3, h3⟩
  have o3 := o2.kept h3 (by simp)
  have c3 := cel_gr h3
  have z3 := gr_trans z2 (gr_none h3 _)
  obtain ⟨w4, r4, o4, g4, c4⟩ := updF Tryd.underlying42 o3 (by decide) 46 (by decide) v3
  have z4 := gr_trans z3 g4
  go_wp2_with fail
  refine (shift32_c 0 (by decide) low_r _).mono ?_
  rintro e w5 ⟨v5, rfl, d5, h5⟩
  have o5 := o4.kept h5 (by simp)
  have c5 := cel_gr h5
  have z5 := gr_trans z4 (gr_none h5 _)
  obtain ⟨w6, r6, o6, g6, c6⟩ := updF Tryd.underlying42 o5 (by decide) 47 (by decide) v5
  have z6 := gr_trans z5 g6
  go_wp2_with fail
  refine (shift32_c 1 (by decide) low_r _).mono ?_
  rintro e w7 ⟨v7, rfl, d7, h7⟩
  have o7 := o6.kept h7 (by simp)
  have c7 := cel_gr h7
  have z7 := gr_trans z6 (gr_none h7 _)
  obtain ⟨w8, r8, o8, g8, c8⟩ := updF Tryd.underlying42 o7 (by decide) 48 (by decide) v7
  have z8 := gr_trans z7 g8
  go_wp2_with fail
  refine (shift32_c 2 (by decide) lowS_r _).mono ?_
  rintro e w9 ⟨v9, rfl, d9, h9⟩
  have o9 := o8.kept h9 (by simp)
  have c9 := cel_gr h9
  have z9 := gr_trans z8 (gr_none h9 _)
  obtain ⟨w10, r10, o10, g10, c10⟩ := updF Tryd.underlying42 o9 (by decide) 49 (by decide) v9
  have z10 := gr_trans z9 g10
  go_wp2_with fail
  go_ret
  exact ⟨_, rfl, Or.inr ⟨_, _, [(49, v9), (48, v7), (47, v5), (46, v3), (45, v1)], rfl, o10, ⟨rfl, d9.grown c10, ⟨rfl, d7.grown ((c8.trans c9).trans c10), ⟨rfl, d5.grown ((((c6.trans c7).trans c8).trans c9).trans c10), ⟨rfl, d3.grown ((((((c4.trans c5).trans c6).trans c7).trans c8).trans c9).trans c10), ⟨rfl, d1.grown ((((((((c2.trans c3).trans c4).trans c5).trans c6).trans c7).trans c8).trans c9).trans c10), trivial⟩⟩⟩⟩⟩⟩, gr_row z10 (Nat.le_refl _)⟩
set_option maxHeartbeats 400000 in
theorem products_c (w : World) : Calls Tryd.prog 27 #[] w (GivesM Does w tPro) := by
  have hmm := @run_makeMap Tryd.prog
  have o0 := World.ownsMap_made w Tryd.prog 3 anyElem
  have z0 := gr_alloc (gr_refl w (some w.heap.size)) (.map #[] 0)
  obtain ⟨w1, r1, o1, g1, c1⟩ := updF Tryd.underlying42 o0 (by decide) 50 (by decide) (.func (.func 52) #[] #[])
  have z1 := gr_trans z0 g1
  go_enter Tryd.func27, Tryd.ntmps27
  go_wp2_with fail
  refine (high_c true true _).mono ?_
  rintro e w2 ⟨v2, rfl, d2, h2⟩
  have o2 := o1.kept h2 (by simp)
  have c2 := cel_gr h2
  have z2 := gr_trans z1 (gr_none h2 _)
  obtain ⟨w3, r3, o3, g3, c3⟩ := updF Tryd.underlying42 o2 (by decide) 51 (by decide) v2
  have z3 := gr_trans z2 g3
  go_wp2_with fail
  refine (high_c true false _).mono ?_
  rintro e w4 ⟨v4, rfl, d4, h4⟩
  have o4 := o3.kept h4 (by simp)
  have c4 := cel_gr h4
  have z4 := gr_trans z3 (gr_none h4 _)
  obtain ⟨w5, r5, o5, g5, c5⟩ := updF Tryd.underlying42 o4 (by decide) 52 (by decide) v4
  have z5 := gr_trans z4 g5
  go_wp2_with fail
  refine (high_c false false _).mono ?_
  rintro e w6 ⟨v6, rfl, d6, h6⟩
  have o6 := o5.kept h6 (by simp)
  have c6 := cel_gr h6
  have z6 := gr_trans z5 (gr_none h6 _)
  obtain ⟨w7, r7, o7, g7, c7⟩ := updF Tryd.underlying42 o6 (by decide) 53 (by decide) v6
  have z7 := gr_trans z6 g7
  go_wp2_with fail
  refine (divide_c true div_y _).mono ?_
  rintro e w8 ⟨v8, rfl, d8, h8⟩
  have o8 := o7.kept h8 (by simp)
  have c8 := cel_gr h8
  have z8 := gr_trans z7 (gr_none h8 _)
  obtain ⟨w9, r9, o9, g9, c9⟩ := updF Tryd.underlying42 o8 (by decide) 54 (by decide) v8
  have z9 := gr_trans z8 g9
  go_wp2_with fail
  refine (divide_c false div_y _).mono ?_
  rintro e w10 ⟨v10, rfl, d10, h10⟩
  have o10 := o9.kept h10 (by simp)
  have c10 := cel_gr h10
  have z10 := gr_trans z9 (gr_none h10 _)
  obtain ⟨w11, r11, o11, g11, c11⟩ := updF Tryd.underlying42 o10 (by decide) 55 (by decide) v10
  have z11 := gr_trans z10 g11
  go_wp2_with fail
  refine (divide_c true rem_y _).mono ?_
  rintro e w12 ⟨v12, rfl, d12, h12⟩
  have o12 := o11.kept h12 (by simp)
  have c12 := cel_gr h12
  have z12 := gr_trans z11 (gr_none h12 _)
  obtain ⟨w13, r13, o13, g13, c13⟩ := updF Tryd.underlying42 o12 (by decide) 56 (by decide) v12
  have z13 := gr_trans z12 g13
  go_wp2_with fail
  refine (divide_c false rem_y _).mono ?_
  rintro e w14 ⟨v14, rfl, d14, h14⟩
  have o14 := o13.kept h14 (by simp)
  have c14 := cel_gr h14
  have z14 := gr_trans z13 (gr_none h14 _)
  obtain ⟨w15, r15, o15, g15, c15⟩ := updF Tryd.underlying42 o14 (by decide) 57 (by decide) v14
  have z15 := gr_trans z14 g15
  go_wp2_with fail
  go_ret
  exact ⟨_, rfl, Or.inr ⟨_, _, [(57, v14), (56, v12), (55, v10), (54, v8), (53, v6), (52, v4), (51, v2), (50, (.func (.func 52) #[] #[]))], rfl, o15, ⟨rfl, d14.grown c15, ⟨rfl, d12.grown ((c13.trans c14).trans c15), ⟨rfl, d10.grown ((((c11.trans c12).trans c13).trans c14).trans c15), ⟨rfl, d8.grown ((((((c9.trans c10).trans c11).trans c12).trans c13).trans c14).trans c15), ⟨rfl, d6.grown ((((((((c7.trans c8).trans c9).trans c10).trans c11).trans c12).trans c13).trans c14).trans c15), ⟨rfl, d4.grown ((((((((((c5.trans c6).trans c7).trans c8).trans c9).trans c10).trans c11).trans c12).trans c13).trans c14).trans c15), ⟨rfl, d2.grown ((((((((((((c3.trans c4).trans c5).trans c6).trans c7).trans c8).trans c9).trans c10).trans c11).trans c12).trans c13).trans c14).trans c15), ⟨rfl, mul_d _, trivial⟩⟩⟩⟩⟩⟩⟩⟩⟩, gr_row z15 (Nat.le_refl _)⟩
set_option maxHeartbeats 400000 in
theorem products32_c (w : World) : Calls Tryd.prog 28 #[] w (GivesM Does w tPro32) := by
  have hmm := @run_makeMap Tryd.prog
  have o0 := World.ownsMap_made w Tryd.prog 3 anyElem
  have z0 := gr_alloc (gr_refl w (some w.heap.size)) (.map #[] 0)
  go_enter Tryd.func28, Tryd.ntmps28
  go_wp2_with fail
  refine (lower_c _ (mul_d _)).mono ?_
  rintro e w1 ⟨v1, rfl, d1, h1⟩
  have o1 := o0.kept h1 (by simp)
  have c1 := cel_gr h1
  have z1 := gr_trans z0 (gr_none h1 _)
  obtain ⟨w2, r2, o2, g2, c2⟩ := updF Tryd.underlying42 o1 (by decide) 58 (by decide) v1
  have z2 := gr_trans z1 g2
  go_wp2_with fail
  refine (divide_c true div32_y _).mono ?_
  rintro e w3 ⟨v3, rfl, d3, h3⟩
  have o3 := o2.kept h3 (by simp)
  have c3 := cel_gr h3
  have z3 := gr_trans z2 (gr_none h3 _)
  obtain ⟨w4, r4, o4, g4, c4⟩ := updF Tryd.underlying42 o3 (by decide) 59 (by decide) v3
  have z4 := gr_trans z3 g4
  go_wp2_with fail
  refine (divide_c false div32_y _).mono ?_
  rintro e w5 ⟨v5, rfl, d5, h5⟩
  have o5 := o4.kept h5 (by simp)
  have c5 := cel_gr h5
  have z5 := gr_trans z4 (gr_none h5 _)
  obtain ⟨w6, r6, o6, g6, c6⟩ := updF Tryd.underlying42 o5 (by decide) 60 (by decide) v5
  have z6 := gr_trans z5 g6
  go_wp2_with fail
  refine (divide_c true rem32_y _).mono ?_
  rintro e w7 ⟨v7, rfl, d7, h7⟩
  have o7 := o6.kept h7 (by simp)
  have c7 := cel_gr h7
  have z7 := gr_trans z6 (gr_none h7 _)
  obtain ⟨w8, r8, o8, g8, c8⟩ := updF Tryd.underlying42 o7 (by decide) 61 (by decide) v7
  have z8 := gr_trans z7 g8
  go_wp2_with fail
  refine (divide_c false rem32_y _).mono ?_
  rintro e w9 ⟨v9, rfl, d9, h9⟩
  have o9 := o8.kept h9 (by simp)
  have c9 := cel_gr h9
  have z9 := gr_trans z8 (gr_none h9 _)
  obtain ⟨w10, r10, o10, g10, c10⟩ := updF Tryd.underlying42 o9 (by decide) 62 (by decide) v9
  have z10 := gr_trans z9 g10
  go_wp2_with fail
  go_ret
  exact ⟨_, rfl, Or.inr ⟨_, _, [(62, v9), (61, v7), (60, v5), (59, v3), (58, v1)], rfl, o10, ⟨rfl, d9.grown c10, ⟨rfl, d7.grown ((c8.trans c9).trans c10), ⟨rfl, d5.grown ((((c6.trans c7).trans c8).trans c9).trans c10), ⟨rfl, d3.grown ((((((c4.trans c5).trans c6).trans c7).trans c8).trans c9).trans c10), ⟨rfl, d1.grown ((((((((c2.trans c3).trans c4).trans c5).trans c6).trans c7).trans c8).trans c9).trans c10), trivial⟩⟩⟩⟩⟩⟩, gr_row z10 (Nat.le_refl _)⟩
set_option maxHeartbeats 400000 in
theorem branches_c (w : World) : Calls Tryd.prog 20 #[] w (GivesM Tests w tBra) := by
  have hmm := @run_makeMap Tryd.prog
  have o0 := World.ownsMap_made w Tryd.prog 3 anyElem
  have z0 := gr_alloc (gr_refl w (some w.heap.size)) (.map #[] 0)
  obtain ⟨w1, r1, o1, g1, c1⟩ := updF Tryd.underlying47 o0 (by decide) 5 (by decide) (.func (.func 37) #[] #[])
  have z1 := gr_trans z0 g1
  go_enter Tryd.func20, Tryd.ntmps20
  go_wp2_with fail
  refine (not_c _ (same_t _)).mono ?_
  rintro e w2 ⟨v2, rfl, d2, h2⟩
  have o2 := o1.kept h2 (by simp)
  have c2 := cel_gr h2
  have z2 := gr_trans z1 (gr_none h2 _)
  obtain ⟨w3, r3, o3, g3, c3⟩ := updF Tryd.underlying47 o2 (by decide) 6 (by decide) v2
  have z3 := gr_trans z2 g3
  obtain ⟨w4, r4, o4, g4, c4⟩ := updF Tryd.underlying47 o3 (by decide) 7 (by decide) (.func (.func 39) #[] #[])
  have z4 := gr_trans z3 g4
  go_wp2_with fail
  refine (not_c _ (lessS_t _)).mono ?_
  rintro e w5 ⟨v5, rfl, d5, h5⟩
  have o5 := o4.kept h5 (by simp)
  have c5 := cel_gr h5
  have z5 := gr_trans z4 (gr_none h5 _)
  obtain ⟨w6, r6, o6, g6, c6⟩ := updF Tryd.underlying47 o5 (by decide) 8 (by decide) v5
  have z6 := gr_trans z5 g6
  obtain ⟨w7, r7, o7, g7, c7⟩ := updF Tryd.underlying47 o6 (by decide) 9 (by decide) (.func (.func 40) #[] #[])
  have z7 := gr_trans z6 g7
  go_wp2_with fail
  refine (not_c _ (less_t _)).mono ?_
  rintro e w8 ⟨v8, rfl, d8, h8⟩
  have o8 := o7.kept h8 (by simp)
  have c8 := cel_gr h8
  have z8 := gr_trans z7 (gr_none h8 _)
  obtain ⟨w9, r9, o9, g9, c9⟩ := updF Tryd.underlying47 o8 (by decide) 10 (by decide) v8
  have z9 := gr_trans z8 g9
  go_wp2_with fail
  go_ret
  exact ⟨_, rfl, Or.inr ⟨_, _, [(10, v8), (9, (.func (.func 40) #[] #[])), (8, v5), (7, (.func (.func 39) #[] #[])), (6, v2), (5, (.func (.func 37) #[] #[]))], rfl, o9, ⟨rfl, d8.grown c9, ⟨rfl, less_t _, ⟨rfl, d5.grown (((c6.trans c7).trans c8).trans c9), ⟨rfl, lessS_t _, ⟨rfl, d2.grown ((((((c3.trans c4).trans c5).trans c6).trans c7).trans c8).trans c9), ⟨rfl, same_t _, trivial⟩⟩⟩⟩⟩⟩⟩, gr_row z9 (Nat.le_refl _)⟩
end Go.Proofs.YtmabfocpcbaniaaDoor
