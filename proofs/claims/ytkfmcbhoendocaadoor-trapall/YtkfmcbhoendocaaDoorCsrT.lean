/-
  The tables of package csr: contracts over the program's translation.
  Conditions: none.
-/
import Derived.Test.YtkfmcbhoendocaaDoorCsrM
namespace Go.Proofs.YtkfmcbhoendocaaDoor
open Go Go.RowKit Go.Maps W M D A C
set_option linter.unusedVariables false

set_option maxHeartbeats 1000000 in
theorem registers_c (w : World) : Calls Tryd.prog 26 #[] w (GivesM IsReg w tR) := by
  have hmm := @run_makeMap Tryd.prog
  have o0 := World.ownsMap_made w Tryd.prog 3 anyElem
  have z0 := gr_alloc (gr_refl w (some w.heap.size)) (.map #[] 0)
  obtain ⟨w1, r1, o1, g1, c1⟩ := updF Tryd.underlying54 o0 (by decide) 256 (by decide) (.agg #[(.func (.func 28) #[] #[]), (.func (.func 29) #[] #[])])
  have z1 := gr_trans z0 g1
  go_enter Tryd.func26, Tryd.ntmps26
  go_wp2_with fail
  refine (only_c 546 (by decide) _).mono ?_
  rintro e w2 ⟨v2, rfl, d2, h2⟩
  have q2 := d2
  obtain ⟨k2, p2, rfl, _⟩ := q2
  have o2 := o1.kept h2 (by simp)
  have c2 := cel_gr h2
  have z2 := gr_trans z1 (gr_none h2 _)
  obtain ⟨w3, r3, o3, g3, c3⟩ := updF Tryd.underlying54 o2 (by decide) 260 (by decide) (.agg #[(.func (.func 30) #[] #[]), (.func (.func k2) #[] p2)])
  have z3 := gr_trans z2 g3
  go_wp2_with fail
  refine (butFor_c 2 18446744073709551613 (by decide) (by decide) (by decide +kernel) _).mono ?_
  rintro e w4 ⟨v4, rfl, d4, h4⟩
  have q4 := d4
  obtain ⟨k4, p4, rfl, _⟩ := q4
  have o4 := o3.kept h4 (by simp)
  have c4 := cel_gr h4
  have z4 := gr_trans z3 (gr_none h4 _)
  obtain ⟨w5, r5, o5, g5, c5⟩ := updF Tryd.underlying54 o4 (by decide) 261 (by decide) (.agg #[(.func (.func 32) #[] #[]), (.func (.func k4) #[] p4)])
  have z5 := gr_trans z4 g5
  go_wp2_with fail
  refine (only_c 7 (by decide) _).mono ?_
  rintro e w6 ⟨v6, rfl, d6, h6⟩
  have q6 := d6
  obtain ⟨k6, p6, rfl, _⟩ := q6
  have o6 := o5.kept h6 (by simp)
  have c6 := cel_gr h6
  have z6 := gr_trans z5 (gr_none h6 _)
  obtain ⟨w7, r7, o7, g7, c7⟩ := updF Tryd.underlying54 o6 (by decide) 262 (by decide) (.agg #[(.func (.func 34) #[] #[]), (.func (.func k6) #[] p6)])
  have z7 := gr_trans z6 g7
  obtain ⟨w8, r8, o8, g8, c8⟩ := updF Tryd.underlying54 o7 (by decide) 320 (by decide) (.agg #[(.func (.func 35) #[] #[]), (.func (.func 36) #[] #[])])
  have z8 := gr_trans z7 g8
  go_wp2_with fail
  refine (butFor_c 1 18446744073709551614 (by decide) (by decide) (by decide +kernel) _).mono ?_
  rintro e w9 ⟨v9, rfl, d9, h9⟩
  have q9 := d9
  obtain ⟨k9, p9, rfl, _⟩ := q9
  have o9 := o8.kept h9 (by simp)
  have c9 := cel_gr h9
  have z9 := gr_trans z8 (gr_none h9 _)
  obtain ⟨w10, r10, o10, g10, c10⟩ := updF Tryd.underlying54 o9 (by decide) 321 (by decide) (.agg #[(.func (.func 37) #[] #[]), (.func (.func k9) #[] p9)])
  have z10 := gr_trans z9 g10
  obtain ⟨w11, r11, o11, g11, c11⟩ := updF Tryd.underlying54 o10 (by decide) 322 (by decide) (.agg #[(.func (.func 38) #[] #[]), (.func (.func 36) #[] #[])])
  have z11 := gr_trans z10 g11
  obtain ⟨w12, r12, o12, g12, c12⟩ := updF Tryd.underlying54 o11 (by decide) 323 (by decide) (.agg #[(.func (.func 39) #[] #[]), (.func (.func 36) #[] #[])])
  have z12 := gr_trans z11 g12
  obtain ⟨w13, r13, o13, g13, c13⟩ := updF Tryd.underlying54 o12 (by decide) 324 (by decide) (.agg #[(.func (.func 40) #[] #[]), (.func (.func 41) #[] #[])])
  have z13 := gr_trans z12 g13
  obtain ⟨w14, r14, o14, g14, c14⟩ := updF Tryd.underlying54 o13 (by decide) 384 (by decide) (.agg #[(.func (.func 42) #[] #[]), (.func (.func 43) #[] #[])])
  have z14 := gr_trans z13 g14
  go_wp2_with fail
  go_ret
  exact ⟨_, rfl, ⟨_, _, [(384, (.agg #[(.func (.func 42) #[] #[]), (.func (.func 43) #[] #[])])), (324, (.agg #[(.func (.func 40) #[] #[]), (.func (.func 41) #[] #[])])), (323, (.agg #[(.func (.func 39) #[] #[]), (.func (.func 36) #[] #[])])), (322, (.agg #[(.func (.func 38) #[] #[]), (.func (.func 36) #[] #[])])), (321, (.agg #[(.func (.func 37) #[] #[]), (.func (.func k9) #[] p9)])), (320, (.agg #[(.func (.func 35) #[] #[]), (.func (.func 36) #[] #[])])), (262, (.agg #[(.func (.func 34) #[] #[]), (.func (.func k6) #[] p6)])), (261, (.agg #[(.func (.func 32) #[] #[]), (.func (.func k4) #[] p4)])), (260, (.agg #[(.func (.func 30) #[] #[]), (.func (.func k2) #[] p2)])), (256, (.agg #[(.func (.func 28) #[] #[]), (.func (.func 29) #[] #[])]))], rfl, o14, ⟨rfl, ⟨_, _, rfl, place9_p, satp_d _⟩, ⟨rfl, ⟨_, _, rfl, place8_p, ip_d _⟩, ⟨rfl, ⟨_, _, rfl, place7_p, all_d _⟩, ⟨rfl, ⟨_, _, rfl, place6_p, all_d _⟩, ⟨rfl, ⟨_, _, rfl, place5_p, (d9.grown ((((c10.trans c11).trans c12).trans c13).trans c14))⟩, ⟨rfl, ⟨_, _, rfl, place4_p, all_d _⟩, ⟨rfl, ⟨_, _, rfl, place3_p, (d6.grown (((((((c7.trans c8).trans c9).trans c10).trans c11).trans c12).trans c13).trans c14))⟩, ⟨rfl, ⟨_, _, rfl, place2_p, (d4.grown (((((((((c5.trans c6).trans c7).trans c8).trans c9).trans c10).trans c11).trans c12).trans c13).trans c14))⟩, ⟨rfl, ⟨_, _, rfl, place1_p, (d2.grown (((((((((((c3.trans c4).trans c5).trans c6).trans c7).trans c8).trans c9).trans c10).trans c11).trans c12).trans c13).trans c14))⟩, ⟨rfl, ⟨_, _, rfl, place0_p, stat_d _⟩, trivial⟩⟩⟩⟩⟩⟩⟩⟩⟩⟩⟩, gr_row z14 (Nat.le_refl _)⟩
end Go.Proofs.YtkfmcbhoendocaaDoor
