/-
  What the tables of package enc are: maps that a call makes, and what is looked up in them: contracts over the program's translation.
  What package enc's Word is: contracts over the program's translation, down to the parts of a word.
  What package enc's Word is: contracts over the program's translation.
  Two instructions compared: they are the same just if each of their six numbers is.
  What package enc's Word is: contracts over the program's translation.
  Conditions: each part's own: the arguments are numbers of their kinds; the tables hold what the program's text lays.
-/
import Derived.Test.YtpbeamnogfjagaaGreatDoorDecK
import Derived.Test.YtpbeamnogfjagaaGreatDoorEncM1
import Derived.Test.YtpbeamnogfjagaaGreatDoorFieldG
import Derived.Lib.Hide
import Derived.Deep.RegionHeld3
section
namespace Go.Proofs.YtpbeamnogfjagaaGreatDoor.E
open Go Go.RowKit Go.Maps F W M D
set_option linter.unusedVariables false
set_option maxRecDepth 100000

theorem keyedI : Keyed Tryz.prog 3 := int_keyed Tryz.underlying3
theorem zeroU (w : World) : (zeroValue 25).run Tryz.prog w = .ok (.int .u32 0) w := by kernel_rfl
/-- What a map of these rows reads as (the last row was put first). -/
def dat : Rws → DataW Unit
  | [] => .map []
  | (a, b) :: L => (dat L).put (.int .i64 a) (.lit (.int .u32 b))
theorem dat_map : ∀ L, IsMap (dat L)
  | [] => ⟨[], rfl⟩
  | (a, b) :: L => (dat_map L).put _ _
theorem dat_at (k : Int) : ∀ L, (dat L).atKey (.int .i64 k) (.lit (.int .u32 0)) = .lit (.int .u32 (D.look L k))
  | [] => rfl
  | (a, b) :: L => by
    rw [dat, D.look]
    by_cases h : k = a
    · subst h
      rw [if_pos rfl, atKey_put_same (dat_map L) (by exact trivial)]
    · rw [if_neg h, atKey_put_other (by intro e; injection e with _ e; exact h e)]
      exact dat_at k L
/-- The value is a map of these rows. -/
def Tab (w : World) (m : Value) (L : Rws) : Prop := ∃ b, m = .map (some b) ∧ w.ownsMap Tryz.prog 3 (plainElem (H := Unit) Tryz.prog 25) b L.length (dat L)
theorem wfI {k : Int} (h : -9223372036854775808 ≤ k ∧ k ≤ 9223372036854775807) : (Lit.int .i64 k).wf = true := WalkArith.wf_i64 h
theorem Tab.look {w : World} {m : Value} {L : Rws} (h : Tab w m L) (k : Int) (hk : -9223372036854775808 ≤ k ∧ k ≤ 9223372036854775807) :
    (Instr.lookup 78 m (.int .i64 k) false).run Tryz.prog w = .ok (.int .u32 (D.look L k)) w := by
  obtain ⟨b, rfl, ho⟩ := h
  obtain ⟨c, hr, ha, _⟩ := ho.lookup_int keyedI Tryz.underlying78 Tryz.underlying25 (zeroU w) (keyOf_int_mk Tryz.underlying3 (wfI hk))
  rw [dat_at] at ha
  injection ha with ha
  injection ha with _ ha
  rw [hr, ha]
theorem upd {w : World} {b n : Nat} {D : DataW Unit} (h : w.ownsMap Tryz.prog 3 (plainElem (H := Unit) Tryz.prog 25) b n D) (hn : n < maxLen) (k v : Int) (hk : -9223372036854775808 ≤ k ∧ k ≤ 9223372036854775807) (hv : 0 ≤ v ∧ v ≤ 4294967295) :
    ∃ w', (Instr.mapUpdate 78 (.map (some b)) (.int .i64 k) (.int .u32 v)).run Tryz.prog w = .ok () w' ∧ w'.ownsMap Tryz.prog 3 (plainElem (H := Unit) Tryz.prog 25) b (n + 1) (D.put (.int .i64 k) (.lit (.int .u32 v))) ∧ w.grownBy w' (some b) :=
  h.update keyedI Tryz.underlying78 hn (keyOf_int_mk Tryz.underlying3 (wfI hk)) (plainElem_int Tryz.underlying25 (wf32 hv))
/-- A call that hands back a map of these rows. -/
def Gives (w : World) (L : Rws) (e : Ending) (w' : World) : Prop := ∃ m, e = .returned m ∧ Tab w' m L ∧ w.grownBy w' none
theorem gives {w w' : World} {L : Rws} (ho : w'.ownsMap Tryz.prog 3 (plainElem (H := Unit) Tryz.prog 25) w.heap.size L.length (dat L)) (hg : w.grownBy w' (some w.heap.size)) :
    Gives w L (.returned (.map (some w.heap.size))) w' := ⟨_, rfl, ⟨_, rfl, ho⟩, gr_row hg (Nat.le_refl _)⟩

def t_jumps : Rws := [(4, 103), (3, 111), (2, 23), (1, 55)]
def t_branches : Rws := [(10, 28771), (9, 24675), (8, 20579), (7, 16483), (6, 4195), (5, 99)]
def t_loads : Rws := [(17, 24579), (16, 20483), (15, 16387), (14, 12291), (13, 8195), (12, 4099), (11, 3)]
def t_stores : Rws := [(21, 12323), (20, 8227), (19, 4131), (18, 35)]
def t_numbers : Rws := [(30, 1073762323), (29, 20499), (28, 4115), (27, 28691), (26, 24595), (25, 16403), (24, 12307), (23, 8211), (22, 19)]
def t_registers : Rws := [(40, 28723), (39, 24627), (38, 1073762355), (37, 20531), (36, 16435), (35, 12339), (34, 8243), (33, 4147), (32, 1073741875), (31, 51)]
def t_numbers32 : Rws := [(44, 1073762331), (43, 20507), (42, 4123), (41, 27)]
def t_registers32 : Rws := [(49, 1073762363), (48, 20539), (47, 4155), (46, 1073741883), (45, 59)]
def t_products : Rws := [(57, 33583155), (56, 33579059), (55, 33574963), (54, 33570867), (53, 33566771), (52, 33562675), (51, 33558579), (50, 33554483)]
def t_products32 : Rws := [(62, 33583163), (61, 33579067), (60, 33574971), (59, 33570875), (58, 33554491)]
def t_systems : Rws := [(69, 301990003), (68, 273678451), (67, 270532723), (66, 1048691), (65, 115), (64, 4111), (63, 15)]
def t_csrs : Rws := [(75, 28787), (74, 24691), (73, 20595), (72, 12403), (71, 8307), (70, 4211)]
def t_atomics : Rws := [(86, 3758104623), (85, 3221233711), (84, 2684362799), (83, 2147491887), (82, 1073750063), (81, 1610620975), (80, 536879151), (79, 8239), (78, 134225967), (77, 402661423), (76, 268443695)]
theorem jumps_c (w : World) : Calls Tryz.prog 61 #[] w (Gives w t_jumps) := by
  have hmm := @run_makeMap Tryz.prog
  have o0 := World.ownsMap_made w Tryz.prog 3 (plainElem (H := Unit) Tryz.prog 25)
  obtain ⟨w1, r1, o1, g1⟩ := upd o0 (by decide) 1 55 (by decide) (by decide)
  obtain ⟨w2, r2, o2, g2⟩ := upd o1 (by decide) 2 23 (by decide) (by decide)
  obtain ⟨w3, r3, o3, g3⟩ := upd o2 (by decide) 3 111 (by decide) (by decide)
  obtain ⟨w4, r4, o4, g4⟩ := upd o3 (by decide) 4 103 (by decide) (by decide)
  go_enter Tryz.func61, Tryz.ntmps61
  go_wp2
  go_ret
  exact gives (L := t_jumps) o4 (gr_trans (gr_trans (gr_trans (gr_trans (gr_alloc (gr_refl w _) _) g1) g2) g3) g4)
theorem branches_c (w : World) : Calls Tryz.prog 62 #[] w (Gives w t_branches) := by
  have hmm := @run_makeMap Tryz.prog
  have o0 := World.ownsMap_made w Tryz.prog 3 (plainElem (H := Unit) Tryz.prog 25)
  obtain ⟨w1, r1, o1, g1⟩ := upd o0 (by decide) 5 99 (by decide) (by decide)
  obtain ⟨w2, r2, o2, g2⟩ := upd o1 (by decide) 6 4195 (by decide) (by decide)
  obtain ⟨w3, r3, o3, g3⟩ := upd o2 (by decide) 7 16483 (by decide) (by decide)
  obtain ⟨w4, r4, o4, g4⟩ := upd o3 (by decide) 8 20579 (by decide) (by decide)
  obtain ⟨w5, r5, o5, g5⟩ := upd o4 (by decide) 9 24675 (by decide) (by decide)
  obtain ⟨w6, r6, o6, g6⟩ := upd o5 (by decide) 10 28771 (by decide) (by decide)
  go_enter Tryz.func62, Tryz.ntmps62
  go_wp2
  go_ret
  exact gives (L := t_branches) o6 (gr_trans (gr_trans (gr_trans (gr_trans (gr_trans (gr_trans (gr_alloc (gr_refl w _) _) g1) g2) g3) g4) g5) g6)
theorem loads_c (w : World) : Calls Tryz.prog 63 #[] w (Gives w t_loads) := by
  have hmm := @run_makeMap Tryz.prog
  have o0 := World.ownsMap_made w Tryz.prog 3 (plainElem (H := Unit) Tryz.prog 25)
  obtain ⟨w1, r1, o1, g1⟩ := upd o0 (by decide) 11 3 (by decide) (by decide)
  obtain ⟨w2, r2, o2, g2⟩ := upd o1 (by decide) 12 4099 (by decide) (by decide)
  obtain ⟨w3, r3, o3, g3⟩ := upd o2 (by decide) 13 8195 (by decide) (by decide)
  obtain ⟨w4, r4, o4, g4⟩ := upd o3 (by decide) 14 12291 (by decide) (by decide)
  obtain ⟨w5, r5, o5, g5⟩ := upd o4 (by decide) 15 16387 (by decide) (by decide)
  obtain ⟨w6, r6, o6, g6⟩ := upd o5 (by decide) 16 20483 (by decide) (by decide)
  obtain ⟨w7, r7, o7, g7⟩ := upd o6 (by decide) 17 24579 (by decide) (by decide)
  go_enter Tryz.func63, Tryz.ntmps63
  go_wp2
  go_ret
  exact gives (L := t_loads) o7 (gr_trans (gr_trans (gr_trans (gr_trans (gr_trans (gr_trans (gr_trans (gr_alloc (gr_refl w _) _) g1) g2) g3) g4) g5) g6) g7)
theorem stores_c (w : World) : Calls Tryz.prog 64 #[] w (Gives w t_stores) := by
  have hmm := @run_makeMap Tryz.prog
  have o0 := World.ownsMap_made w Tryz.prog 3 (plainElem (H := Unit) Tryz.prog 25)
  obtain ⟨w1, r1, o1, g1⟩ := upd o0 (by decide) 18 35 (by decide) (by decide)
  obtain ⟨w2, r2, o2, g2⟩ := upd o1 (by decide) 19 4131 (by decide) (by decide)
  obtain ⟨w3, r3, o3, g3⟩ := upd o2 (by decide) 20 8227 (by decide) (by decide)
  obtain ⟨w4, r4, o4, g4⟩ := upd o3 (by decide) 21 12323 (by decide) (by decide)
  go_enter Tryz.func64, Tryz.ntmps64
  go_wp2
  go_ret
  exact gives (L := t_stores) o4 (gr_trans (gr_trans (gr_trans (gr_trans (gr_alloc (gr_refl w _) _) g1) g2) g3) g4)
theorem numbers_c (w : World) : Calls Tryz.prog 65 #[] w (Gives w t_numbers) := by
  have hmm := @run_makeMap Tryz.prog
  have o0 := World.ownsMap_made w Tryz.prog 3 (plainElem (H := Unit) Tryz.prog 25)
  obtain ⟨w1, r1, o1, g1⟩ := upd o0 (by decide) 22 19 (by decide) (by decide)
  obtain ⟨w2, r2, o2, g2⟩ := upd o1 (by decide) 23 8211 (by decide) (by decide)
  obtain ⟨w3, r3, o3, g3⟩ := upd o2 (by decide) 24 12307 (by decide) (by decide)
  obtain ⟨w4, r4, o4, g4⟩ := upd o3 (by decide) 25 16403 (by decide) (by decide)
  obtain ⟨w5, r5, o5, g5⟩ := upd o4 (by decide) 26 24595 (by decide) (by decide)
  obtain ⟨w6, r6, o6, g6⟩ := upd o5 (by decide) 27 28691 (by decide) (by decide)
  obtain ⟨w7, r7, o7, g7⟩ := upd o6 (by decide) 28 4115 (by decide) (by decide)
  obtain ⟨w8, r8, o8, g8⟩ := upd o7 (by decide) 29 20499 (by decide) (by decide)
  obtain ⟨w9, r9, o9, g9⟩ := upd o8 (by decide) 30 1073762323 (by decide) (by decide)
  go_enter Tryz.func65, Tryz.ntmps65
  go_wp2
  go_ret
  exact gives (L := t_numbers) o9 (gr_trans (gr_trans (gr_trans (gr_trans (gr_trans (gr_trans (gr_trans (gr_trans (gr_trans (gr_alloc (gr_refl w _) _) g1) g2) g3) g4) g5) g6) g7) g8) g9)
theorem registers_c (w : World) : Calls Tryz.prog 66 #[] w (Gives w t_registers) := by
  have hmm := @run_makeMap Tryz.prog
  have o0 := World.ownsMap_made w Tryz.prog 3 (plainElem (H := Unit) Tryz.prog 25)
  obtain ⟨w1, r1, o1, g1⟩ := upd o0 (by decide) 31 51 (by decide) (by decide)
  obtain ⟨w2, r2, o2, g2⟩ := upd o1 (by decide) 32 1073741875 (by decide) (by decide)
  obtain ⟨w3, r3, o3, g3⟩ := upd o2 (by decide) 33 4147 (by decide) (by decide)
  obtain ⟨w4, r4, o4, g4⟩ := upd o3 (by decide) 34 8243 (by decide) (by decide)
  obtain ⟨w5, r5, o5, g5⟩ := upd o4 (by decide) 35 12339 (by decide) (by decide)
  obtain ⟨w6, r6, o6, g6⟩ := upd o5 (by decide) 36 16435 (by decide) (by decide)
  obtain ⟨w7, r7, o7, g7⟩ := upd o6 (by decide) 37 20531 (by decide) (by decide)
  obtain ⟨w8, r8, o8, g8⟩ := upd o7 (by decide) 38 1073762355 (by decide) (by decide)
  obtain ⟨w9, r9, o9, g9⟩ := upd o8 (by decide) 39 24627 (by decide) (by decide)
  obtain ⟨w10, r10, o10, g10⟩ := upd o9 (by decide) 40 28723 (by decide) (by decide)
  go_enter Tryz.func66, Tryz.ntmps66
  go_wp2
  go_ret
  exact gives (L := t_registers) o10 (gr_trans (gr_trans (gr_trans (gr_trans (gr_trans (gr_trans (gr_trans (gr_trans (gr_trans (gr_trans (gr_alloc (gr_refl w _) _) g1) g2) g3) g4) g5) g6) g7) g8) g9) g10)
theorem numbers32_c (w : World) : Calls Tryz.prog 67 #[] w (Gives w t_numbers32) := by
  have hmm := @run_makeMap Tryz.prog
  have o0 := World.ownsMap_made w Tryz.prog 3 (plainElem (H := Unit) Tryz.prog 25)
  obtain ⟨w1, r1, o1, g1⟩ := upd o0 (by decide) 41 27 (by decide) (by decide)
  obtain ⟨w2, r2, o2, g2⟩ := upd o1 (by decide) 42 4123 (by decide) (by decide)
  obtain ⟨w3, r3, o3, g3⟩ := upd o2 (by decide) 43 20507 (by decide) (by decide)
  obtain ⟨w4, r4, o4, g4⟩ := upd o3 (by decide) 44 1073762331 (by decide) (by decide)
  go_enter Tryz.func67, Tryz.ntmps67
  go_wp2
  go_ret
  exact gives (L := t_numbers32) o4 (gr_trans (gr_trans (gr_trans (gr_trans (gr_alloc (gr_refl w _) _) g1) g2) g3) g4)
theorem registers32_c (w : World) : Calls Tryz.prog 68 #[] w (Gives w t_registers32) := by
  have hmm := @run_makeMap Tryz.prog
  have o0 := World.ownsMap_made w Tryz.prog 3 (plainElem (H := Unit) Tryz.prog 25)
  obtain ⟨w1, r1, o1, g1⟩ := upd o0 (by decide) 45 59 (by decide) (by decide)
  obtain ⟨w2, r2, o2, g2⟩ := upd o1 (by decide) 46 1073741883 (by decide) (by decide)
  obtain ⟨w3, r3, o3, g3⟩ := upd o2 (by decide) 47 4155 (by decide) (by decide)
  obtain ⟨w4, r4, o4, g4⟩ := upd o3 (by decide) 48 20539 (by decide) (by decide)
  obtain ⟨w5, r5, o5, g5⟩ := upd o4 (by decide) 49 1073762363 (by decide) (by decide)
  go_enter Tryz.func68, Tryz.ntmps68
  go_wp2
  go_ret
  exact gives (L := t_registers32) o5 (gr_trans (gr_trans (gr_trans (gr_trans (gr_trans (gr_alloc (gr_refl w _) _) g1) g2) g3) g4) g5)
theorem products_c (w : World) : Calls Tryz.prog 69 #[] w (Gives w t_products) := by
  have hmm := @run_makeMap Tryz.prog
  have o0 := World.ownsMap_made w Tryz.prog 3 (plainElem (H := Unit) Tryz.prog 25)
  obtain ⟨w1, r1, o1, g1⟩ := upd o0 (by decide) 50 33554483 (by decide) (by decide)
  obtain ⟨w2, r2, o2, g2⟩ := upd o1 (by decide) 51 33558579 (by decide) (by decide)
  obtain ⟨w3, r3, o3, g3⟩ := upd o2 (by decide) 52 33562675 (by decide) (by decide)
  obtain ⟨w4, r4, o4, g4⟩ := upd o3 (by decide) 53 33566771 (by decide) (by decide)
  obtain ⟨w5, r5, o5, g5⟩ := upd o4 (by decide) 54 33570867 (by decide) (by decide)
  obtain ⟨w6, r6, o6, g6⟩ := upd o5 (by decide) 55 33574963 (by decide) (by decide)
  obtain ⟨w7, r7, o7, g7⟩ := upd o6 (by decide) 56 33579059 (by decide) (by decide)
  obtain ⟨w8, r8, o8, g8⟩ := upd o7 (by decide) 57 33583155 (by decide) (by decide)
  go_enter Tryz.func69, Tryz.ntmps69
  go_wp2
  go_ret
  exact gives (L := t_products) o8 (gr_trans (gr_trans (gr_trans (gr_trans (gr_trans (gr_trans (gr_trans (gr_trans (gr_alloc (gr_refl w _) _) g1) g2) g3) g4) g5) g6) g7) g8)
theorem products32_c (w : World) : Calls Tryz.prog 70 #[] w (Gives w t_products32) := by
  have hmm := @run_makeMap Tryz.prog
  have o0 := World.ownsMap_made w Tryz.prog 3 (plainElem (H := Unit) Tryz.prog 25)
  obtain ⟨w1, r1, o1, g1⟩ := upd o0 (by decide) 58 33554491 (by decide) (by decide)
  obtain ⟨w2, r2, o2, g2⟩ := upd o1 (by decide) 59 33570875 (by decide) (by decide)
  obtain ⟨w3, r3, o3, g3⟩ := upd o2 (by decide) 60 33574971 (by decide) (by decide)
  obtain ⟨w4, r4, o4, g4⟩ := upd o3 (by decide) 61 33579067 (by decide) (by decide)
  obtain ⟨w5, r5, o5, g5⟩ := upd o4 (by decide) 62 33583163 (by decide) (by decide)
  go_enter Tryz.func70, Tryz.ntmps70
  go_wp2
  go_ret
  exact gives (L := t_products32) o5 (gr_trans (gr_trans (gr_trans (gr_trans (gr_trans (gr_alloc (gr_refl w _) _) g1) g2) g3) g4) g5)
theorem systems_c (w : World) : Calls Tryz.prog 71 #[] w (Gives w t_systems) := by
  have hmm := @run_makeMap Tryz.prog
  have o0 := World.ownsMap_made w Tryz.prog 3 (plainElem (H := Unit) Tryz.prog 25)
  obtain ⟨w1, r1, o1, g1⟩ := upd o0 (by decide) 63 15 (by decide) (by decide)
  obtain ⟨w2, r2, o2, g2⟩ := upd o1 (by decide) 64 4111 (by decide) (by decide)
  obtain ⟨w3, r3, o3, g3⟩ := upd o2 (by decide) 65 115 (by decide) (by decide)
  obtain ⟨w4, r4, o4, g4⟩ := upd o3 (by decide) 66 1048691 (by decide) (by decide)
  obtain ⟨w5, r5, o5, g5⟩ := upd o4 (by decide) 67 270532723 (by decide) (by decide)
  obtain ⟨w6, r6, o6, g6⟩ := upd o5 (by decide) 68 273678451 (by decide) (by decide)
  obtain ⟨w7, r7, o7, g7⟩ := upd o6 (by decide) 69 301990003 (by decide) (by decide)
  go_enter Tryz.func71, Tryz.ntmps71
  go_wp2
  go_ret
  exact gives (L := t_systems) o7 (gr_trans (gr_trans (gr_trans (gr_trans (gr_trans (gr_trans (gr_trans (gr_alloc (gr_refl w _) _) g1) g2) g3) g4) g5) g6) g7)
theorem csrs_c (w : World) : Calls Tryz.prog 72 #[] w (Gives w t_csrs) := by
  have hmm := @run_makeMap Tryz.prog
  have o0 := World.ownsMap_made w Tryz.prog 3 (plainElem (H := Unit) Tryz.prog 25)
  obtain ⟨w1, r1, o1, g1⟩ := upd o0 (by decide) 70 4211 (by decide) (by decide)
  obtain ⟨w2, r2, o2, g2⟩ := upd o1 (by decide) 71 8307 (by decide) (by decide)
  obtain ⟨w3, r3, o3, g3⟩ := upd o2 (by decide) 72 12403 (by decide) (by decide)
  obtain ⟨w4, r4, o4, g4⟩ := upd o3 (by decide) 73 20595 (by decide) (by decide)
  obtain ⟨w5, r5, o5, g5⟩ := upd o4 (by decide) 74 24691 (by decide) (by decide)
  obtain ⟨w6, r6, o6, g6⟩ := upd o5 (by decide) 75 28787 (by decide) (by decide)
  go_enter Tryz.func72, Tryz.ntmps72
  go_wp2
  go_ret
  exact gives (L := t_csrs) o6 (gr_trans (gr_trans (gr_trans (gr_trans (gr_trans (gr_trans (gr_alloc (gr_refl w _) _) g1) g2) g3) g4) g5) g6)
theorem atomics_c (w : World) : Calls Tryz.prog 73 #[] w (Gives w t_atomics) := by
  have hmm := @run_makeMap Tryz.prog
  have o0 := World.ownsMap_made w Tryz.prog 3 (plainElem (H := Unit) Tryz.prog 25)
  obtain ⟨w1, r1, o1, g1⟩ := upd o0 (by decide) 76 268443695 (by decide) (by decide)
  obtain ⟨w2, r2, o2, g2⟩ := upd o1 (by decide) 77 402661423 (by decide) (by decide)
  obtain ⟨w3, r3, o3, g3⟩ := upd o2 (by decide) 78 134225967 (by decide) (by decide)
  obtain ⟨w4, r4, o4, g4⟩ := upd o3 (by decide) 79 8239 (by decide) (by decide)
  obtain ⟨w5, r5, o5, g5⟩ := upd o4 (by decide) 80 536879151 (by decide) (by decide)
  obtain ⟨w6, r6, o6, g6⟩ := upd o5 (by decide) 81 1610620975 (by decide) (by decide)
  obtain ⟨w7, r7, o7, g7⟩ := upd o6 (by decide) 82 1073750063 (by decide) (by decide)
  obtain ⟨w8, r8, o8, g8⟩ := upd o7 (by decide) 83 2147491887 (by decide) (by decide)
  obtain ⟨w9, r9, o9, g9⟩ := upd o8 (by decide) 84 2684362799 (by decide) (by decide)
  obtain ⟨w10, r10, o10, g10⟩ := upd o9 (by decide) 85 3221233711 (by decide) (by decide)
  obtain ⟨w11, r11, o11, g11⟩ := upd o10 (by decide) 86 3758104623 (by decide) (by decide)
  go_enter Tryz.func73, Tryz.ntmps73
  go_wp2
  go_ret
  exact gives (L := t_atomics) o11 (gr_trans (gr_trans (gr_trans (gr_trans (gr_trans (gr_trans (gr_trans (gr_trans (gr_trans (gr_trans (gr_trans (gr_alloc (gr_refl w _) _) g1) g2) g3) g4) g5) g6) g7) g8) g9) g10) g11)
end Go.Proofs.YtpbeamnogfjagaaGreatDoor.E
end

section
namespace Go.Proofs.YtpbeamnogfjagaaGreatDoor.E
open Go Go.RowKit Go.Maps F W M D
set_option linter.unusedVariables false
set_option maxRecDepth 100000

abbrev I64 (n : Int) : Prop := -9223372036854775808 ≤ n ∧ n ≤ 9223372036854775807
theorem kind0 {o : Int} (h : o ≤ 0) : kindV o = 0 := kind_at o 0 (by decide) h (Or.inl rfl)
theorem kind1 {o : Int} (h : 1 ≤ o ∧ o ≤ 4) : kindV o = 1 := kind_at o 1 (by decide) (show o ≤ 4 by omega) (Or.inr (show (0 : Int) < o by omega))
theorem kind2 {o : Int} (h : 5 ≤ o ∧ o ≤ 10) : kindV o = 2 := kind_at o 2 (by decide) (show o ≤ 10 by omega) (Or.inr (show (4 : Int) < o by omega))
theorem kind3 {o : Int} (h : 11 ≤ o ∧ o ≤ 17) : kindV o = 3 := kind_at o 3 (by decide) (show o ≤ 17 by omega) (Or.inr (show (10 : Int) < o by omega))
theorem kind4 {o : Int} (h : 18 ≤ o ∧ o ≤ 21) : kindV o = 4 := kind_at o 4 (by decide) (show o ≤ 21 by omega) (Or.inr (show (17 : Int) < o by omega))
theorem kind5 {o : Int} (h : 22 ≤ o ∧ o ≤ 30) : kindV o = 5 := kind_at o 5 (by decide) (show o ≤ 30 by omega) (Or.inr (show (21 : Int) < o by omega))
theorem kind6 {o : Int} (h : 31 ≤ o ∧ o ≤ 40) : kindV o = 6 := kind_at o 6 (by decide) (show o ≤ 40 by omega) (Or.inr (show (30 : Int) < o by omega))
theorem kind7 {o : Int} (h : 41 ≤ o ∧ o ≤ 44) : kindV o = 7 := kind_at o 7 (by decide) (show o ≤ 44 by omega) (Or.inr (show (40 : Int) < o by omega))
theorem kind8 {o : Int} (h : 45 ≤ o ∧ o ≤ 49) : kindV o = 8 := kind_at o 8 (by decide) (show o ≤ 49 by omega) (Or.inr (show (44 : Int) < o by omega))
theorem kind9 {o : Int} (h : 50 ≤ o ∧ o ≤ 57) : kindV o = 9 := kind_at o 9 (by decide) (show o ≤ 57 by omega) (Or.inr (show (49 : Int) < o by omega))
theorem kind10 {o : Int} (h : 58 ≤ o ∧ o ≤ 62) : kindV o = 10 := kind_at o 10 (by decide) (show o ≤ 62 by omega) (Or.inr (show (57 : Int) < o by omega))
theorem kind11 {o : Int} (h : 63 ≤ o ∧ o ≤ 69) : kindV o = 11 := kind_at o 11 (by decide) (show o ≤ 69 by omega) (Or.inr (show (62 : Int) < o by omega))
theorem kind12 {o : Int} (h : 70 ≤ o ∧ o ≤ 75) : kindV o = 12 := kind_at o 12 (by decide) (show o ≤ 75 by omega) (Or.inr (show (69 : Int) < o by omega))
theorem kind13 {o : Int} (h : 76 ≤ o ∧ o ≤ 86) : kindV o = 13 := kind_at o 13 (by decide) (show o ≤ 86 by omega) (Or.inr (show (75 : Int) < o by omega))
theorem kind14 {o : Int} (h : 87 ≤ o ∧ o ≤ 97) : kindV o = 14 := kind_at o 14 (by decide) (show o ≤ 97 by omega) (Or.inr (show (86 : Int) < o by omega))
theorem look1 {o : Int} (h : 1 ≤ o ∧ o ≤ 4) : D.look t_jumps o = (baseV o : Nat) := by
  have := rng_at (a := 1) (b := 4) (P := fun o => decide (D.look t_jumps o = (baseV o : Nat))) (by decide +kernel) o (by omega)
  exact of_decide_eq_true this
theorem look2 {o : Int} (h : 5 ≤ o ∧ o ≤ 10) : D.look t_branches o = (baseV o : Nat) := by
  have := rng_at (a := 5) (b := 10) (P := fun o => decide (D.look t_branches o = (baseV o : Nat))) (by decide +kernel) o (by omega)
  exact of_decide_eq_true this
theorem look3 {o : Int} (h : 11 ≤ o ∧ o ≤ 17) : D.look t_loads o = (baseV o : Nat) := by
  have := rng_at (a := 11) (b := 17) (P := fun o => decide (D.look t_loads o = (baseV o : Nat))) (by decide +kernel) o (by omega)
  exact of_decide_eq_true this
theorem look4 {o : Int} (h : 18 ≤ o ∧ o ≤ 21) : D.look t_stores o = (baseV o : Nat) := by
  have := rng_at (a := 18) (b := 21) (P := fun o => decide (D.look t_stores o = (baseV o : Nat))) (by decide +kernel) o (by omega)
  exact of_decide_eq_true this
theorem look5 {o : Int} (h : 22 ≤ o ∧ o ≤ 30) : D.look t_numbers o = (baseV o : Nat) := by
  have := rng_at (a := 22) (b := 30) (P := fun o => decide (D.look t_numbers o = (baseV o : Nat))) (by decide +kernel) o (by omega)
  exact of_decide_eq_true this
theorem look6 {o : Int} (h : 31 ≤ o ∧ o ≤ 40) : D.look t_registers o = (baseV o : Nat) := by
  have := rng_at (a := 31) (b := 40) (P := fun o => decide (D.look t_registers o = (baseV o : Nat))) (by decide +kernel) o (by omega)
  exact of_decide_eq_true this
theorem look7 {o : Int} (h : 41 ≤ o ∧ o ≤ 44) : D.look t_numbers32 o = (baseV o : Nat) := by
  have := rng_at (a := 41) (b := 44) (P := fun o => decide (D.look t_numbers32 o = (baseV o : Nat))) (by decide +kernel) o (by omega)
  exact of_decide_eq_true this
theorem look8 {o : Int} (h : 45 ≤ o ∧ o ≤ 49) : D.look t_registers32 o = (baseV o : Nat) := by
  have := rng_at (a := 45) (b := 49) (P := fun o => decide (D.look t_registers32 o = (baseV o : Nat))) (by decide +kernel) o (by omega)
  exact of_decide_eq_true this
theorem look9 {o : Int} (h : 50 ≤ o ∧ o ≤ 57) : D.look t_products o = (baseV o : Nat) := by
  have := rng_at (a := 50) (b := 57) (P := fun o => decide (D.look t_products o = (baseV o : Nat))) (by decide +kernel) o (by omega)
  exact of_decide_eq_true this
theorem look10 {o : Int} (h : 58 ≤ o ∧ o ≤ 62) : D.look t_products32 o = (baseV o : Nat) := by
  have := rng_at (a := 58) (b := 62) (P := fun o => decide (D.look t_products32 o = (baseV o : Nat))) (by decide +kernel) o (by omega)
  exact of_decide_eq_true this
theorem look11 {o : Int} (h : 63 ≤ o ∧ o ≤ 69) : D.look t_systems o = (baseV o : Nat) := by
  have := rng_at (a := 63) (b := 69) (P := fun o => decide (D.look t_systems o = (baseV o : Nat))) (by decide +kernel) o (by omega)
  exact of_decide_eq_true this
theorem look12 {o : Int} (h : 70 ≤ o ∧ o ≤ 75) : D.look t_csrs o = (baseV o : Nat) := by
  have := rng_at (a := 70) (b := 75) (P := fun o => decide (D.look t_csrs o = (baseV o : Nat))) (by decide +kernel) o (by omega)
  exact of_decide_eq_true this
theorem look13 {o : Int} (h : 76 ≤ o ∧ o ≤ 86) : D.look t_atomics o = (baseV o : Nat) := by
  have := rng_at (a := 76) (b := 86) (P := fun o => decide (D.look t_atomics o = (baseV o : Nat))) (by decide +kernel) o (by omega)
  exact of_decide_eq_true this
theorem look14 {o : Int} (h : 87 ≤ o ∧ o ≤ 97) : 0 ≤ D.look t_atomics (o - 11) ∧ D.look t_atomics (o - 11) ≤ 4294967295 ∧ bits .or .u32 (D.look t_atomics (o - 11)) 4096 = (baseV o : Nat) := by
  have := rng_at (a := 87) (b := 97) (P := fun o => decide (0 ≤ D.look t_atomics (o - 11) ∧ D.look t_atomics (o - 11) ≤ 4294967295 ∧ bits .or .u32 (D.look t_atomics (o - 11)) 4096 = (baseV o : Nat))) (by decide +kernel) o (by omega)
  exact of_decide_eq_true this
theorem base_no {o : Int} (h : o ≤ 0 ∨ 97 < o) : baseV o = 0 := by
  rcases h with h | h
  · have : o.toNat = 0 := by omega
    simp [baseV, fldsOf, this, fldL, baseOf]
  · have : 98 ≤ o.toNat := by omega
    have e : fldsOf o = [] := by rw [fldsOf, List.getD_eq_getElem?_getD, List.getElem?_eq_none (by simpa [fldL] using this)]; rfl
    simp [baseV, e, baseOf]
set_option maxHeartbeats 1000000 in
theorem least_no (o : Int) (ho : I64 o) (h : o ≤ 0 ∨ 97 < o) (w : World) (hT : Tbl w) :
    Calls Tryz.prog 36 #[.int .i64 o] w fun e w' => e = .returned (.int .u32 (baseV o : Nat)) ∧ w.grownBy w' none := by
  have hk : kindV o = 0 := by rcases h with h | h; exact kind0 h; exact kind_none o h
  have HB := Lib.hid (base_no h)
  rw [HB.out]
  clear h
  go_enter Tryz.func36, Tryz.ntmps36
  go_wp2_with fail
  refine (Kind_c o ho _ hT).mono ?_
  rintro e w' ⟨rfl, rfl⟩
  rw [hk]
  go_wp2_with fail
  go_ret
  exact ⟨rfl, gr_refl _ _⟩
set_option maxHeartbeats 1000000 in
theorem least1 (o : Int) (ho : 1 ≤ o ∧ o ≤ 4) (w : World) (hT : Tbl w) :
    Calls Tryz.prog 36 #[.int .i64 o] w fun e w' => e = .returned (.int .u32 (baseV o : Nat)) ∧ w.grownBy w' none := by
  have hk : kindV o = 1 := kind1 ho
  have HL := Lib.hid (look1 ho)
  go_enter Tryz.func36, Tryz.ntmps36
  go_wp2_with fail
  refine (Kind_c o (by omega) _ hT).mono ?_
  rintro e w' ⟨rfl, rfl⟩
  rw [hk]
  go_wp2_with fail
  refine (jumps_c _).mono ?_
  rintro e w1 ⟨m, rfl, hM, hG⟩
  have hl := hM.look o (by omega)
  rw [HL.out] at hl
  obtain ⟨v, hv⟩ : ∃ v : Int, v = (baseV o : Nat) := ⟨_, rfl⟩
  rw [← hv] at hl
  have HV := Lib.hid hv
  clear hv
  go_wp2_with fail
  go_ret
  exact ⟨ret_int HV.out, hG⟩
set_option maxHeartbeats 1000000 in
theorem least2 (o : Int) (ho : 5 ≤ o ∧ o ≤ 10) (w : World) (hT : Tbl w) :
    Calls Tryz.prog 36 #[.int .i64 o] w fun e w' => e = .returned (.int .u32 (baseV o : Nat)) ∧ w.grownBy w' none := by
  have hk : kindV o = 2 := kind2 ho
  have HL := Lib.hid (look2 ho)
  go_enter Tryz.func36, Tryz.ntmps36
  go_wp2_with fail
  refine (Kind_c o (by omega) _ hT).mono ?_
  rintro e w' ⟨rfl, rfl⟩
  rw [hk]
  go_wp2_with fail
  refine (branches_c _).mono ?_
  rintro e w1 ⟨m, rfl, hM, hG⟩
  have hl := hM.look o (by omega)
  rw [HL.out] at hl
  obtain ⟨v, hv⟩ : ∃ v : Int, v = (baseV o : Nat) := ⟨_, rfl⟩
  rw [← hv] at hl
  have HV := Lib.hid hv
  clear hv
  go_wp2_with fail
  go_ret
  exact ⟨ret_int HV.out, hG⟩
set_option maxHeartbeats 1000000 in
theorem least3 (o : Int) (ho : 11 ≤ o ∧ o ≤ 17) (w : World) (hT : Tbl w) :
    Calls Tryz.prog 36 #[.int .i64 o] w fun e w' => e = .returned (.int .u32 (baseV o : Nat)) ∧ w.grownBy w' none := by
  have hk : kindV o = 3 := kind3 ho
  have HL := Lib.hid (look3 ho)
  go_enter Tryz.func36, Tryz.ntmps36
  go_wp2_with fail
  refine (Kind_c o (by omega) _ hT).mono ?_
  rintro e w' ⟨rfl, rfl⟩
  rw [hk]
  go_wp2_with fail
  refine (loads_c _).mono ?_
  rintro e w1 ⟨m, rfl, hM, hG⟩
  have hl := hM.look o (by omega)
  rw [HL.out] at hl
  obtain ⟨v, hv⟩ : ∃ v : Int, v = (baseV o : Nat) := ⟨_, rfl⟩
  rw [← hv] at hl
  have HV := Lib.hid hv
  clear hv
  go_wp2_with fail
  go_ret
  exact ⟨ret_int HV.out, hG⟩
set_option maxHeartbeats 1000000 in
theorem least4 (o : Int) (ho : 18 ≤ o ∧ o ≤ 21) (w : World) (hT : Tbl w) :
    Calls Tryz.prog 36 #[.int .i64 o] w fun e w' => e = .returned (.int .u32 (baseV o : Nat)) ∧ w.grownBy w' none := by
  have hk : kindV o = 4 := kind4 ho
  have HL := Lib.hid (look4 ho)
  go_enter Tryz.func36, Tryz.ntmps36
  go_wp2_with fail
  refine (Kind_c o (by omega) _ hT).mono ?_
  rintro e w' ⟨rfl, rfl⟩
  rw [hk]
  go_wp2_with fail
  refine (stores_c _).mono ?_
  rintro e w1 ⟨m, rfl, hM, hG⟩
  have hl := hM.look o (by omega)
  rw [HL.out] at hl
  obtain ⟨v, hv⟩ : ∃ v : Int, v = (baseV o : Nat) := ⟨_, rfl⟩
  rw [← hv] at hl
  have HV := Lib.hid hv
  clear hv
  go_wp2_with fail
  go_ret
  exact ⟨ret_int HV.out, hG⟩
set_option maxHeartbeats 1000000 in
theorem least5 (o : Int) (ho : 22 ≤ o ∧ o ≤ 30) (w : World) (hT : Tbl w) :
    Calls Tryz.prog 36 #[.int .i64 o] w fun e w' => e = .returned (.int .u32 (baseV o : Nat)) ∧ w.grownBy w' none := by
  have hk : kindV o = 5 := kind5 ho
  have HL := Lib.hid (look5 ho)
  go_enter Tryz.func36, Tryz.ntmps36
  go_wp2_with fail
  refine (Kind_c o (by omega) _ hT).mono ?_
  rintro e w' ⟨rfl, rfl⟩
  rw [hk]
  go_wp2_with fail
  refine (numbers_c _).mono ?_
  rintro e w1 ⟨m, rfl, hM, hG⟩
  have hl := hM.look o (by omega)
  rw [HL.out] at hl
  obtain ⟨v, hv⟩ : ∃ v : Int, v = (baseV o : Nat) := ⟨_, rfl⟩
  rw [← hv] at hl
  have HV := Lib.hid hv
  clear hv
  go_wp2_with fail
  go_ret
  exact ⟨ret_int HV.out, hG⟩
set_option maxHeartbeats 1000000 in
theorem least6 (o : Int) (ho : 31 ≤ o ∧ o ≤ 40) (w : World) (hT : Tbl w) :
    Calls Tryz.prog 36 #[.int .i64 o] w fun e w' => e = .returned (.int .u32 (baseV o : Nat)) ∧ w.grownBy w' none := by
  have hk : kindV o = 6 := kind6 ho
  have HL := Lib.hid (look6 ho)
  go_enter Tryz.func36, Tryz.ntmps36
  go_wp2_with fail
  refine (Kind_c o (by omega) _ hT).mono ?_
  rintro e w' ⟨rfl, rfl⟩
  rw [hk]
  go_wp2_with fail
  refine (registers_c _).mono ?_
  rintro e w1 ⟨m, rfl, hM, hG⟩
  have hl := hM.look o (by omega)
  rw [HL.out] at hl
  obtain ⟨v, hv⟩ : ∃ v : Int, v = (baseV o : Nat) := ⟨_, rfl⟩
  rw [← hv] at hl
  have HV := Lib.hid hv
  clear hv
  go_wp2_with fail
  go_ret
  exact ⟨ret_int HV.out, hG⟩
set_option maxHeartbeats 1000000 in
theorem least7 (o : Int) (ho : 41 ≤ o ∧ o ≤ 44) (w : World) (hT : Tbl w) :
    Calls Tryz.prog 36 #[.int .i64 o] w fun e w' => e = .returned (.int .u32 (baseV o : Nat)) ∧ w.grownBy w' none := by
  have hk : kindV o = 7 := kind7 ho
  have HL := Lib.hid (look7 ho)
  go_enter Tryz.func36, Tryz.ntmps36
  go_wp2_with fail
  refine (Kind_c o (by omega) _ hT).mono ?_
  rintro e w' ⟨rfl, rfl⟩
  rw [hk]
  go_wp2_with fail
  refine (numbers32_c _).mono ?_
  rintro e w1 ⟨m, rfl, hM, hG⟩
  have hl := hM.look o (by omega)
  rw [HL.out] at hl
  obtain ⟨v, hv⟩ : ∃ v : Int, v = (baseV o : Nat) := ⟨_, rfl⟩
  rw [← hv] at hl
  have HV := Lib.hid hv
  clear hv
  go_wp2_with fail
  go_ret
  exact ⟨ret_int HV.out, hG⟩
set_option maxHeartbeats 1000000 in
theorem least8 (o : Int) (ho : 45 ≤ o ∧ o ≤ 49) (w : World) (hT : Tbl w) :
    Calls Tryz.prog 36 #[.int .i64 o] w fun e w' => e = .returned (.int .u32 (baseV o : Nat)) ∧ w.grownBy w' none := by
  have hk : kindV o = 8 := kind8 ho
  have HL := Lib.hid (look8 ho)
  go_enter Tryz.func36, Tryz.ntmps36
  go_wp2_with fail
  refine (Kind_c o (by omega) _ hT).mono ?_
  rintro e w' ⟨rfl, rfl⟩
  rw [hk]
  go_wp2_with fail
  refine (registers32_c _).mono ?_
  rintro e w1 ⟨m, rfl, hM, hG⟩
  have hl := hM.look o (by omega)
  rw [HL.out] at hl
  obtain ⟨v, hv⟩ : ∃ v : Int, v = (baseV o : Nat) := ⟨_, rfl⟩
  rw [← hv] at hl
  have HV := Lib.hid hv
  clear hv
  go_wp2_with fail
  go_ret
  exact ⟨ret_int HV.out, hG⟩
set_option maxHeartbeats 1000000 in
theorem least9 (o : Int) (ho : 50 ≤ o ∧ o ≤ 57) (w : World) (hT : Tbl w) :
    Calls Tryz.prog 36 #[.int .i64 o] w fun e w' => e = .returned (.int .u32 (baseV o : Nat)) ∧ w.grownBy w' none := by
  have hk : kindV o = 9 := kind9 ho
  have HL := Lib.hid (look9 ho)
  go_enter Tryz.func36, Tryz.ntmps36
  go_wp2_with fail
  refine (Kind_c o (by omega) _ hT).mono ?_
  rintro e w' ⟨rfl, rfl⟩
  rw [hk]
  go_wp2_with fail
  refine (products_c _).mono ?_
  rintro e w1 ⟨m, rfl, hM, hG⟩
  have hl := hM.look o (by omega)
  rw [HL.out] at hl
  obtain ⟨v, hv⟩ : ∃ v : Int, v = (baseV o : Nat) := ⟨_, rfl⟩
  rw [← hv] at hl
  have HV := Lib.hid hv
  clear hv
  go_wp2_with fail
  go_ret
  exact ⟨ret_int HV.out, hG⟩
set_option maxHeartbeats 1000000 in
theorem least10 (o : Int) (ho : 58 ≤ o ∧ o ≤ 62) (w : World) (hT : Tbl w) :
    Calls Tryz.prog 36 #[.int .i64 o] w fun e w' => e = .returned (.int .u32 (baseV o : Nat)) ∧ w.grownBy w' none := by
  have hk : kindV o = 10 := kind10 ho
  have HL := Lib.hid (look10 ho)
  go_enter Tryz.func36, Tryz.ntmps36
  go_wp2_with fail
  refine (Kind_c o (by omega) _ hT).mono ?_
  rintro e w' ⟨rfl, rfl⟩
  rw [hk]
  go_wp2_with fail
  refine (products32_c _).mono ?_
  rintro e w1 ⟨m, rfl, hM, hG⟩
  have hl := hM.look o (by omega)
  rw [HL.out] at hl
  obtain ⟨v, hv⟩ : ∃ v : Int, v = (baseV o : Nat) := ⟨_, rfl⟩
  rw [← hv] at hl
  have HV := Lib.hid hv
  clear hv
  go_wp2_with fail
  go_ret
  exact ⟨ret_int HV.out, hG⟩
set_option maxHeartbeats 1000000 in
theorem least11 (o : Int) (ho : 63 ≤ o ∧ o ≤ 69) (w : World) (hT : Tbl w) :
    Calls Tryz.prog 36 #[.int .i64 o] w fun e w' => e = .returned (.int .u32 (baseV o : Nat)) ∧ w.grownBy w' none := by
  have hk : kindV o = 11 := kind11 ho
  have HL := Lib.hid (look11 ho)
  go_enter Tryz.func36, Tryz.ntmps36
  go_wp2_with fail
  refine (Kind_c o (by omega) _ hT).mono ?_
  rintro e w' ⟨rfl, rfl⟩
  rw [hk]
  go_wp2_with fail
  refine (systems_c _).mono ?_
  rintro e w1 ⟨m, rfl, hM, hG⟩
  have hl := hM.look o (by omega)
  rw [HL.out] at hl
  obtain ⟨v, hv⟩ : ∃ v : Int, v = (baseV o : Nat) := ⟨_, rfl⟩
  rw [← hv] at hl
  have HV := Lib.hid hv
  clear hv
  go_wp2_with fail
  go_ret
  exact ⟨ret_int HV.out, hG⟩
set_option maxHeartbeats 1000000 in
theorem least12 (o : Int) (ho : 70 ≤ o ∧ o ≤ 75) (w : World) (hT : Tbl w) :
    Calls Tryz.prog 36 #[.int .i64 o] w fun e w' => e = .returned (.int .u32 (baseV o : Nat)) ∧ w.grownBy w' none := by
  have hk : kindV o = 12 := kind12 ho
  have HL := Lib.hid (look12 ho)
  go_enter Tryz.func36, Tryz.ntmps36
  go_wp2_with fail
  refine (Kind_c o (by omega) _ hT).mono ?_
  rintro e w' ⟨rfl, rfl⟩
  rw [hk]
  go_wp2_with fail
  refine (csrs_c _).mono ?_
  rintro e w1 ⟨m, rfl, hM, hG⟩
  have hl := hM.look o (by omega)
  rw [HL.out] at hl
  obtain ⟨v, hv⟩ : ∃ v : Int, v = (baseV o : Nat) := ⟨_, rfl⟩
  rw [← hv] at hl
  have HV := Lib.hid hv
  clear hv
  go_wp2_with fail
  go_ret
  exact ⟨ret_int HV.out, hG⟩
set_option maxHeartbeats 1000000 in
theorem least13 (o : Int) (ho : 76 ≤ o ∧ o ≤ 86) (w : World) (hT : Tbl w) :
    Calls Tryz.prog 36 #[.int .i64 o] w fun e w' => e = .returned (.int .u32 (baseV o : Nat)) ∧ w.grownBy w' none := by
  have hk : kindV o = 13 := kind13 ho
  have HL := Lib.hid (look13 ho)
  go_enter Tryz.func36, Tryz.ntmps36
  go_wp2_with fail
  refine (Kind_c o (by omega) _ hT).mono ?_
  rintro e w' ⟨rfl, rfl⟩
  rw [hk]
  go_wp2_with fail
  refine (atomics_c _).mono ?_
  rintro e w1 ⟨m, rfl, hM, hG⟩
  have hl := hM.look o (by omega)
  rw [HL.out] at hl
  obtain ⟨v, hv⟩ : ∃ v : Int, v = (baseV o : Nat) := ⟨_, rfl⟩
  rw [← hv] at hl
  have HV := Lib.hid hv
  clear hv
  go_wp2_with fail
  go_ret
  exact ⟨ret_int HV.out, hG⟩
set_option maxHeartbeats 1000000 in
theorem least14 (o : Int) (ho : 87 ≤ o ∧ o ≤ 97) (w : World) (hT : Tbl w) :
    Calls Tryz.prog 36 #[.int .i64 o] w fun e w' => e = .returned (.int .u32 (baseV o : Nat)) ∧ w.grownBy w' none := by
  have hk : kindV o = 14 := kind14 ho
  have HL := Lib.hid (look14 ho)
  go_enter Tryz.func36, Tryz.ntmps36
  go_wp2_with fail
  refine (Kind_c o (by omega) _ hT).mono ?_
  rintro e w' ⟨rfl, rfl⟩
  rw [hk]
  go_wp2_with fail
  refine (atomics_c _).mono ?_
  rintro e w1 ⟨m, rfl, hM, hG⟩
  have hl := hM.look (o - 11) (by omega)
  obtain ⟨l1, l2, l3⟩ := HL.out
  have L3 := Lib.hid l3
  clear l3 HL
  generalize D.look t_atomics (o - 11) = v at *
  go_wp2_with fail
  go_ret
  exact ⟨ret_int L3.out, hG⟩
theorem least_c (o : Int) (ho : I64 o) (w : World) (hT : Tbl w) :
    Calls Tryz.prog 36 #[.int .i64 o] w fun e w' => e = .returned (.int .u32 (baseV o : Nat)) ∧ w.grownBy w' none := by
  rcases (show (o ≤ 0 ∨ 97 < o) ∨ (1 ≤ o ∧ o ≤ 4) ∨ (5 ≤ o ∧ o ≤ 10) ∨ (11 ≤ o ∧ o ≤ 17) ∨ (18 ≤ o ∧ o ≤ 21) ∨ (22 ≤ o ∧ o ≤ 30) ∨ (31 ≤ o ∧ o ≤ 40) ∨ (41 ≤ o ∧ o ≤ 44) ∨ (45 ≤ o ∧ o ≤ 49) ∨ (50 ≤ o ∧ o ≤ 57) ∨ (58 ≤ o ∧ o ≤ 62) ∨ (63 ≤ o ∧ o ≤ 69) ∨ (70 ≤ o ∧ o ≤ 75) ∨ (76 ≤ o ∧ o ≤ 86) ∨ (87 ≤ o ∧ o ≤ 97) by omega) with h | h | h | h | h | h | h | h | h | h | h | h | h | h | h
  · exact least_no o ho h w hT
  · exact least1 o h w hT
  · exact least2 o h w hT
  · exact least3 o h w hT
  · exact least4 o h w hT
  · exact least5 o h w hT
  · exact least6 o h w hT
  · exact least7 o h w hT
  · exact least8 o h w hT
  · exact least9 o h w hT
  · exact least10 o h w hT
  · exact least11 o h w hT
  · exact least12 o h w hT
  · exact least13 o h w hT
  · exact least14 o h w hT
end Go.Proofs.YtpbeamnogfjagaaGreatDoor.E
end

section
namespace Go.Proofs.YtpbeamnogfjagaaGreatDoor.E
open Go Go.RowKit Go.Maps F W M D
set_option linter.unusedVariables false
set_option maxRecDepth 100000

/-- The format of an op's number. -/
def fmtV (o : Int) : Int :=
  if o ≤ 0 then 0 else if o ≤ 2 then 4 else if o ≤ 3 then 5 else if o ≤ 4 then 1 else if o ≤ 10 then 3 else if o ≤ 17 then 1 else if o ≤ 21 then 2 else if o ≤ 30 then 1 else if o ≤ 40 then 0 else if o ≤ 44 then 1 else 0
theorem fmt0 {o : Int} (h : o ≤ 0) : fmtV o = 0 := by
  unfold fmtV; rw [if_pos (by omega)]
theorem fmt1 {o : Int} (h : 1 ≤ o ∧ o ≤ 2) : fmtV o = 4 := by
  unfold fmtV; rw [if_neg (by omega), if_pos (by omega)]
theorem fmt2 {o : Int} (h : 3 ≤ o ∧ o ≤ 3) : fmtV o = 5 := by
  unfold fmtV; rw [if_neg (by omega), if_neg (by omega), if_pos (by omega)]
theorem fmt3 {o : Int} (h : 4 ≤ o ∧ o ≤ 4) : fmtV o = 1 := by
  unfold fmtV; rw [if_neg (by omega), if_neg (by omega), if_neg (by omega), if_pos (by omega)]
theorem fmt4 {o : Int} (h : 5 ≤ o ∧ o ≤ 10) : fmtV o = 3 := by
  unfold fmtV; rw [if_neg (by omega), if_neg (by omega), if_neg (by omega), if_neg (by omega), if_pos (by omega)]
theorem fmt5 {o : Int} (h : 11 ≤ o ∧ o ≤ 17) : fmtV o = 1 := by
  unfold fmtV; rw [if_neg (by omega), if_neg (by omega), if_neg (by omega), if_neg (by omega), if_neg (by omega), if_pos (by omega)]
theorem fmt6 {o : Int} (h : 18 ≤ o ∧ o ≤ 21) : fmtV o = 2 := by
  unfold fmtV; rw [if_neg (by omega), if_neg (by omega), if_neg (by omega), if_neg (by omega), if_neg (by omega), if_neg (by omega), if_pos (by omega)]
theorem fmt7 {o : Int} (h : 22 ≤ o ∧ o ≤ 30) : fmtV o = 1 := by
  unfold fmtV; rw [if_neg (by omega), if_neg (by omega), if_neg (by omega), if_neg (by omega), if_neg (by omega), if_neg (by omega), if_neg (by omega), if_pos (by omega)]
theorem fmt8 {o : Int} (h : 31 ≤ o ∧ o ≤ 40) : fmtV o = 0 := by
  unfold fmtV; rw [if_neg (by omega), if_neg (by omega), if_neg (by omega), if_neg (by omega), if_neg (by omega), if_neg (by omega), if_neg (by omega), if_neg (by omega), if_pos (by omega)]
theorem fmt9 {o : Int} (h : 41 ≤ o ∧ o ≤ 44) : fmtV o = 1 := by
  unfold fmtV; rw [if_neg (by omega), if_neg (by omega), if_neg (by omega), if_neg (by omega), if_neg (by omega), if_neg (by omega), if_neg (by omega), if_neg (by omega), if_neg (by omega), if_pos (by omega)]
theorem fmt10 {o : Int} (h : 45 ≤ o) : fmtV o = 0 := by
  unfold fmtV; rw [if_neg (by omega), if_neg (by omega), if_neg (by omega), if_neg (by omega), if_neg (by omega), if_neg (by omega), if_neg (by omega), if_neg (by omega), if_neg (by omega), if_neg (by omega)]
theorem fmt_in (o : Int) : 0 ≤ fmtV o ∧ fmtV o ≤ 5 := by
  unfold fmtV
  repeat' (first | omega | split)

theorem format0 (o : Int) (ho : I64 o) (h : o ≤ 0) (w : World) (hT : Tbl w) :
    Calls Tryz.prog 75 #[.int .i64 o] w fun e w' => e = .returned (.int .i64 (fmtV o)) ∧ w = w' := by
  rw [fmt0 (by omega)]
  have HK := Lib.hid (show kindV o = 0 from kind0 h)
  have n1 : decide (o = 1) = false := by simp; omega
  have n2 : decide (o = 2) = false := by simp; omega
  have n3 : decide (o = 3) = false := by simp; omega
  go_enter Tryz.func75, Tryz.ntmps75
  go_wp2_with fail
  refine (Kind_c o ho _ hT).mono ?_
  rintro e w' ⟨rfl, rfl⟩
  rw [HK.out]
  go_wp2_with fail
  go_ret
  exact ⟨rfl, rfl⟩
theorem format1 (o : Int) (ho : I64 o) (h : 1 ≤ o ∧ o ≤ 2) (w : World) (hT : Tbl w) :
    Calls Tryz.prog 75 #[.int .i64 o] w fun e w' => e = .returned (.int .i64 (fmtV o)) ∧ w = w' := by
  rw [fmt1 (by omega)]
  rcases (show o = 1 ∨ o = 2 by omega) with rfl | rfl
  all_goals (go_enter Tryz.func75, Tryz.ntmps75; go_wp2_with fail; go_ret; exact ⟨rfl, rfl⟩)
theorem format2 (o : Int) (ho : I64 o) (h : 3 ≤ o ∧ o ≤ 3) (w : World) (hT : Tbl w) :
    Calls Tryz.prog 75 #[.int .i64 o] w fun e w' => e = .returned (.int .i64 (fmtV o)) ∧ w = w' := by
  rw [fmt2 (by omega)]
  obtain rfl : o = 3 := by omega
  go_enter Tryz.func75, Tryz.ntmps75
  go_wp2_with fail
  go_ret
  exact ⟨rfl, rfl⟩
theorem format3 (o : Int) (ho : I64 o) (h : 4 ≤ o ∧ o ≤ 4) (w : World) (hT : Tbl w) :
    Calls Tryz.prog 75 #[.int .i64 o] w fun e w' => e = .returned (.int .i64 (fmtV o)) ∧ w = w' := by
  rw [fmt3 (by omega)]
  have HK := Lib.hid (show kindV o = 1 from kind1 (by omega))
  have n1 : decide (o = 1) = false := by simp; omega
  have n2 : decide (o = 2) = false := by simp; omega
  have n3 : decide (o = 3) = false := by simp; omega
  go_enter Tryz.func75, Tryz.ntmps75
  go_wp2_with fail
  refine (Kind_c o ho _ hT).mono ?_
  rintro e w' ⟨rfl, rfl⟩
  rw [HK.out]
  go_wp2_with fail
  go_ret
  exact ⟨rfl, rfl⟩
theorem format4 (o : Int) (ho : I64 o) (h : 5 ≤ o ∧ o ≤ 10) (w : World) (hT : Tbl w) :
    Calls Tryz.prog 75 #[.int .i64 o] w fun e w' => e = .returned (.int .i64 (fmtV o)) ∧ w = w' := by
  rw [fmt4 (by omega)]
  have HK := Lib.hid (show kindV o = 2 from kind2 (by omega))
  have n1 : decide (o = 1) = false := by simp; omega
  have n2 : decide (o = 2) = false := by simp; omega
  have n3 : decide (o = 3) = false := by simp; omega
  go_enter Tryz.func75, Tryz.ntmps75
  go_wp2_with fail
  refine (Kind_c o ho _ hT).mono ?_
  rintro e w' ⟨rfl, rfl⟩
  rw [HK.out]
  go_wp2_with fail
  go_ret
  exact ⟨rfl, rfl⟩
theorem format5 (o : Int) (ho : I64 o) (h : 11 ≤ o ∧ o ≤ 17) (w : World) (hT : Tbl w) :
    Calls Tryz.prog 75 #[.int .i64 o] w fun e w' => e = .returned (.int .i64 (fmtV o)) ∧ w = w' := by
  rw [fmt5 (by omega)]
  have HK := Lib.hid (show kindV o = 3 from kind3 (by omega))
  have n1 : decide (o = 1) = false := by simp; omega
  have n2 : decide (o = 2) = false := by simp; omega
  have n3 : decide (o = 3) = false := by simp; omega
  go_enter Tryz.func75, Tryz.ntmps75
  go_wp2_with fail
  refine (Kind_c o ho _ hT).mono ?_
  rintro e w' ⟨rfl, rfl⟩
  rw [HK.out]
  go_wp2_with fail
  go_ret
  exact ⟨rfl, rfl⟩
theorem format6 (o : Int) (ho : I64 o) (h : 18 ≤ o ∧ o ≤ 21) (w : World) (hT : Tbl w) :
    Calls Tryz.prog 75 #[.int .i64 o] w fun e w' => e = .returned (.int .i64 (fmtV o)) ∧ w = w' := by
  rw [fmt6 (by omega)]
  have HK := Lib.hid (show kindV o = 4 from kind4 (by omega))
  have n1 : decide (o = 1) = false := by simp; omega
  have n2 : decide (o = 2) = false := by simp; omega
  have n3 : decide (o = 3) = false := by simp; omega
  go_enter Tryz.func75, Tryz.ntmps75
  go_wp2_with fail
  refine (Kind_c o ho _ hT).mono ?_
  rintro e w' ⟨rfl, rfl⟩
  rw [HK.out]
  go_wp2_with fail
  go_ret
  exact ⟨rfl, rfl⟩
theorem format7 (o : Int) (ho : I64 o) (h : 22 ≤ o ∧ o ≤ 30) (w : World) (hT : Tbl w) :
    Calls Tryz.prog 75 #[.int .i64 o] w fun e w' => e = .returned (.int .i64 (fmtV o)) ∧ w = w' := by
  rw [fmt7 (by omega)]
  have HK := Lib.hid (show kindV o = 5 from kind5 (by omega))
  have n1 : decide (o = 1) = false := by simp; omega
  have n2 : decide (o = 2) = false := by simp; omega
  have n3 : decide (o = 3) = false := by simp; omega
  go_enter Tryz.func75, Tryz.ntmps75
  go_wp2_with fail
  refine (Kind_c o ho _ hT).mono ?_
  rintro e w' ⟨rfl, rfl⟩
  rw [HK.out]
  go_wp2_with fail
  go_ret
  exact ⟨rfl, rfl⟩
theorem format8 (o : Int) (ho : I64 o) (h : 31 ≤ o ∧ o ≤ 40) (w : World) (hT : Tbl w) :
    Calls Tryz.prog 75 #[.int .i64 o] w fun e w' => e = .returned (.int .i64 (fmtV o)) ∧ w = w' := by
  rw [fmt8 (by omega)]
  have HK := Lib.hid (show kindV o = 6 from kind6 (by omega))
  have n1 : decide (o = 1) = false := by simp; omega
  have n2 : decide (o = 2) = false := by simp; omega
  have n3 : decide (o = 3) = false := by simp; omega
  go_enter Tryz.func75, Tryz.ntmps75
  go_wp2_with fail
  refine (Kind_c o ho _ hT).mono ?_
  rintro e w' ⟨rfl, rfl⟩
  rw [HK.out]
  go_wp2_with fail
  go_ret
  exact ⟨rfl, rfl⟩
theorem format9 (o : Int) (ho : I64 o) (h : 41 ≤ o ∧ o ≤ 44) (w : World) (hT : Tbl w) :
    Calls Tryz.prog 75 #[.int .i64 o] w fun e w' => e = .returned (.int .i64 (fmtV o)) ∧ w = w' := by
  rw [fmt9 (by omega)]
  have HK := Lib.hid (show kindV o = 7 from kind7 (by omega))
  have n1 : decide (o = 1) = false := by simp; omega
  have n2 : decide (o = 2) = false := by simp; omega
  have n3 : decide (o = 3) = false := by simp; omega
  go_enter Tryz.func75, Tryz.ntmps75
  go_wp2_with fail
  refine (Kind_c o ho _ hT).mono ?_
  rintro e w' ⟨rfl, rfl⟩
  rw [HK.out]
  go_wp2_with fail
  go_ret
  exact ⟨rfl, rfl⟩
theorem format10 (o : Int) (ho : I64 o) (h : 45 ≤ o ∧ o ≤ 49) (w : World) (hT : Tbl w) :
    Calls Tryz.prog 75 #[.int .i64 o] w fun e w' => e = .returned (.int .i64 (fmtV o)) ∧ w = w' := by
  rw [fmt10 (by omega)]
  have HK := Lib.hid (show kindV o = 8 from kind8 (by omega))
  have n1 : decide (o = 1) = false := by simp; omega
  have n2 : decide (o = 2) = false := by simp; omega
  have n3 : decide (o = 3) = false := by simp; omega
  go_enter Tryz.func75, Tryz.ntmps75
  go_wp2_with fail
  refine (Kind_c o ho _ hT).mono ?_
  rintro e w' ⟨rfl, rfl⟩
  rw [HK.out]
  go_wp2_with fail
  go_ret
  exact ⟨rfl, rfl⟩
theorem format11 (o : Int) (ho : I64 o) (h : 50 ≤ o ∧ o ≤ 57) (w : World) (hT : Tbl w) :
    Calls Tryz.prog 75 #[.int .i64 o] w fun e w' => e = .returned (.int .i64 (fmtV o)) ∧ w = w' := by
  rw [fmt10 (by omega)]
  have HK := Lib.hid (show kindV o = 9 from kind9 (by omega))
  have n1 : decide (o = 1) = false := by simp; omega
  have n2 : decide (o = 2) = false := by simp; omega
  have n3 : decide (o = 3) = false := by simp; omega
  go_enter Tryz.func75, Tryz.ntmps75
  go_wp2_with fail
  refine (Kind_c o ho _ hT).mono ?_
  rintro e w' ⟨rfl, rfl⟩
  rw [HK.out]
  go_wp2_with fail
  go_ret
  exact ⟨rfl, rfl⟩
theorem format12 (o : Int) (ho : I64 o) (h : 58 ≤ o ∧ o ≤ 62) (w : World) (hT : Tbl w) :
    Calls Tryz.prog 75 #[.int .i64 o] w fun e w' => e = .returned (.int .i64 (fmtV o)) ∧ w = w' := by
  rw [fmt10 (by omega)]
  have HK := Lib.hid (show kindV o = 10 from kind10 (by omega))
  have n1 : decide (o = 1) = false := by simp; omega
  have n2 : decide (o = 2) = false := by simp; omega
  have n3 : decide (o = 3) = false := by simp; omega
  go_enter Tryz.func75, Tryz.ntmps75
  go_wp2_with fail
  refine (Kind_c o ho _ hT).mono ?_
  rintro e w' ⟨rfl, rfl⟩
  rw [HK.out]
  go_wp2_with fail
  go_ret
  exact ⟨rfl, rfl⟩
theorem format13 (o : Int) (ho : I64 o) (h : 63 ≤ o ∧ o ≤ 69) (w : World) (hT : Tbl w) :
    Calls Tryz.prog 75 #[.int .i64 o] w fun e w' => e = .returned (.int .i64 (fmtV o)) ∧ w = w' := by
  rw [fmt10 (by omega)]
  have HK := Lib.hid (show kindV o = 11 from kind11 (by omega))
  have n1 : decide (o = 1) = false := by simp; omega
  have n2 : decide (o = 2) = false := by simp; omega
  have n3 : decide (o = 3) = false := by simp; omega
  go_enter Tryz.func75, Tryz.ntmps75
  go_wp2_with fail
  refine (Kind_c o ho _ hT).mono ?_
  rintro e w' ⟨rfl, rfl⟩
  rw [HK.out]
  go_wp2_with fail
  go_ret
  exact ⟨rfl, rfl⟩
theorem format14 (o : Int) (ho : I64 o) (h : 70 ≤ o ∧ o ≤ 75) (w : World) (hT : Tbl w) :
    Calls Tryz.prog 75 #[.int .i64 o] w fun e w' => e = .returned (.int .i64 (fmtV o)) ∧ w = w' := by
  rw [fmt10 (by omega)]
  have HK := Lib.hid (show kindV o = 12 from kind12 (by omega))
  have n1 : decide (o = 1) = false := by simp; omega
  have n2 : decide (o = 2) = false := by simp; omega
  have n3 : decide (o = 3) = false := by simp; omega
  go_enter Tryz.func75, Tryz.ntmps75
  go_wp2_with fail
  refine (Kind_c o ho _ hT).mono ?_
  rintro e w' ⟨rfl, rfl⟩
  rw [HK.out]
  go_wp2_with fail
  go_ret
  exact ⟨rfl, rfl⟩
theorem format15 (o : Int) (ho : I64 o) (h : 76 ≤ o ∧ o ≤ 86) (w : World) (hT : Tbl w) :
    Calls Tryz.prog 75 #[.int .i64 o] w fun e w' => e = .returned (.int .i64 (fmtV o)) ∧ w = w' := by
  rw [fmt10 (by omega)]
  have HK := Lib.hid (show kindV o = 13 from kind13 (by omega))
  have n1 : decide (o = 1) = false := by simp; omega
  have n2 : decide (o = 2) = false := by simp; omega
  have n3 : decide (o = 3) = false := by simp; omega
  go_enter Tryz.func75, Tryz.ntmps75
  go_wp2_with fail
  refine (Kind_c o ho _ hT).mono ?_
  rintro e w' ⟨rfl, rfl⟩
  rw [HK.out]
  go_wp2_with fail
  go_ret
  exact ⟨rfl, rfl⟩
theorem format16 (o : Int) (ho : I64 o) (h : 87 ≤ o ∧ o ≤ 97) (w : World) (hT : Tbl w) :
    Calls Tryz.prog 75 #[.int .i64 o] w fun e w' => e = .returned (.int .i64 (fmtV o)) ∧ w = w' := by
  rw [fmt10 (by omega)]
  have HK := Lib.hid (show kindV o = 14 from kind14 (by omega))
  have n1 : decide (o = 1) = false := by simp; omega
  have n2 : decide (o = 2) = false := by simp; omega
  have n3 : decide (o = 3) = false := by simp; omega
  go_enter Tryz.func75, Tryz.ntmps75
  go_wp2_with fail
  refine (Kind_c o ho _ hT).mono ?_
  rintro e w' ⟨rfl, rfl⟩
  rw [HK.out]
  go_wp2_with fail
  go_ret
  exact ⟨rfl, rfl⟩
theorem format17 (o : Int) (ho : I64 o) (h : 97 < o) (w : World) (hT : Tbl w) :
    Calls Tryz.prog 75 #[.int .i64 o] w fun e w' => e = .returned (.int .i64 (fmtV o)) ∧ w = w' := by
  rw [fmt10 (by omega)]
  have HK := Lib.hid (show kindV o = 0 from kind_none o h)
  have n1 : decide (o = 1) = false := by simp; omega
  have n2 : decide (o = 2) = false := by simp; omega
  have n3 : decide (o = 3) = false := by simp; omega
  go_enter Tryz.func75, Tryz.ntmps75
  go_wp2_with fail
  refine (Kind_c o ho _ hT).mono ?_
  rintro e w' ⟨rfl, rfl⟩
  rw [HK.out]
  go_wp2_with fail
  go_ret
  exact ⟨rfl, rfl⟩
theorem format_c (o : Int) (ho : I64 o) (w : World) (hT : Tbl w) :
    Calls Tryz.prog 75 #[.int .i64 o] w fun e w' => e = .returned (.int .i64 (fmtV o)) ∧ w = w' := by
  rcases (show (o ≤ 0) ∨ (1 ≤ o ∧ o ≤ 2) ∨ (3 ≤ o ∧ o ≤ 3) ∨ (4 ≤ o ∧ o ≤ 4) ∨ (5 ≤ o ∧ o ≤ 10) ∨ (11 ≤ o ∧ o ≤ 17) ∨ (18 ≤ o ∧ o ≤ 21) ∨ (22 ≤ o ∧ o ≤ 30) ∨ (31 ≤ o ∧ o ≤ 40) ∨ (41 ≤ o ∧ o ≤ 44) ∨ (45 ≤ o ∧ o ≤ 49) ∨ (50 ≤ o ∧ o ≤ 57) ∨ (58 ≤ o ∧ o ≤ 62) ∨ (63 ≤ o ∧ o ≤ 69) ∨ (70 ≤ o ∧ o ≤ 75) ∨ (76 ≤ o ∧ o ≤ 86) ∨ (87 ≤ o ∧ o ≤ 97) ∨ (97 < o) by omega) with h | h | h | h | h | h | h | h | h | h | h | h | h | h | h | h | h | h
  · exact format0 o ho h w hT
  · exact format1 o ho h w hT
  · exact format2 o ho h w hT
  · exact format3 o ho h w hT
  · exact format4 o ho h w hT
  · exact format5 o ho h w hT
  · exact format6 o ho h w hT
  · exact format7 o ho h w hT
  · exact format8 o ho h w hT
  · exact format9 o ho h w hT
  · exact format10 o ho h w hT
  · exact format11 o ho h w hT
  · exact format12 o ho h w hT
  · exact format13 o ho h w hT
  · exact format14 o ho h w hT
  · exact format15 o ho h w hT
  · exact format16 o ho h w hT
  · exact format17 o ho h w hT

/-- An instruction stands in block b, and the table of kinds where it stood. -/
def Held (w0 : World) (b : Nat) (o rd rs1 rs2 im n : Int) (w : World) : Prop :=
  w.cell? ⟨b, 0, none⟩ = some (.int .i64 o) ∧ w.cell? ⟨b, 1, none⟩ = some (.int .i64 rd) ∧ w.cell? ⟨b, 2, none⟩ = some (.int .i64 rs1) ∧ w.cell? ⟨b, 3, none⟩ = some (.int .i64 rs2) ∧ w.cell? ⟨b, 4, none⟩ = some (.int .i64 im) ∧ w.cell? ⟨b, 5, none⟩ = some (.int .i64 n) ∧
  Row w b 23 [.int .i64 o, .int .i64 rd, .int .i64 rs1, .int .i64 rs2, .int .i64 im, .int .i64 n] ∧ Tbl w ∧ w0.grownBy w none
theorem held_of {w0 w : World} {b : Nat} {o rd rs1 rs2 im n : Int} (h : Row w b 23 [.int .i64 o, .int .i64 rd, .int .i64 rs1, .int .i64 rs2, .int .i64 im, .int .i64 n]) (hT : Tbl w) (hb : w0.grownBy w none) : Held w0 b o rd rs1 rs2 im n w :=
  ⟨h.cell 0, h.cell 1, h.cell 2, h.cell 3, h.cell 4, h.cell 5, h, hT, hb⟩
theorem Held.on {w0 w w' : World} {b : Nat} {o rd rs1 rs2 im n : Int} (hg : w.grownBy w' none) (h : Held w0 b o rd rs1 rs2 im n w) : Held w0 b o rd rs1 rs2 im n w' :=
  held_of (h.2.2.2.2.2.2.1.grown hg (by simp)) (h.2.2.2.2.2.2.2.1.grown hg) (gr_trans h.2.2.2.2.2.2.2.2 hg)
theorem Held.tbl {w0 w : World} {b : Nat} {o rd rs1 rs2 im n : Int} (h : Held w0 b o rd rs1 rs2 im n w) : Tbl w := h.2.2.2.2.2.2.2.1
theorem Held.gr {w0 w : World} {b : Nat} {o rd rs1 rs2 im n : Int} (h : Held w0 b o rd rs1 rs2 im n w) : w0.grownBy w none := h.2.2.2.2.2.2.2.2
theorem held_new (w : World) (hT : Tbl w) (o rd rs1 rs2 im n : Int) : Held w w.heap.size o rd rs1 rs2 im n (w.alloc (.cells #[.int .i64 o, .int .i64 rd, .int .i64 rs1, .int .i64 rs2, .int .i64 im, .int .i64 n] 23)) :=
  held_of (Row.fresh w _ _) (hT.grown (gr_alloc (gr_refl _ _) _)) (gr_alloc (gr_refl _ _) _)
abbrev six (o rd rs1 rs2 im n : Int) : Value := .agg #[.int .i64 o, .int .i64 rd, .int .i64 rs1, .int .i64 rs2, .int .i64 im, .int .i64 n]

/-- The bits of a number, as the program lays them. -/
def numI (o im : Int) : Nat := if 70 ≤ o ∧ o ≤ 75 then low im * 1048576 % 4294967296 else layV im (fmtV o)
theorem numI_lt (o im : Int) : numI o im < 4294967296 := by
  unfold numI
  split
  · omega
  · exact layV_lt _ _
theorem not12 {o : Int} (h : ¬ (70 ≤ o ∧ o ≤ 75)) : (kindV o == 12) = false := by
  rcases (show o ≤ 0 ∨ 97 < o ∨ (1 ≤ o ∧ o ≤ 4) ∨ (5 ≤ o ∧ o ≤ 10) ∨ (11 ≤ o ∧ o ≤ 17) ∨ (18 ≤ o ∧ o ≤ 21) ∨ (22 ≤ o ∧ o ≤ 30) ∨ (31 ≤ o ∧ o ≤ 40) ∨ (41 ≤ o ∧ o ≤ 44) ∨ (45 ≤ o ∧ o ≤ 49) ∨ (50 ≤ o ∧ o ≤ 57) ∨ (58 ≤ o ∧ o ≤ 62) ∨ (63 ≤ o ∧ o ≤ 69) ∨ (70 ≤ o ∧ o ≤ 75) ∨ (76 ≤ o ∧ o ≤ 86) ∨ (87 ≤ o ∧ o ≤ 97) by omega) with k | k | k | k | k | k | k | k | k | k | k | k | k | k | k | k
  · rw [kind0 k]; rfl
  · rw [kind_none o k]; rfl
  · rw [kind1 k]; rfl
  · rw [kind2 k]; rfl
  · rw [kind3 k]; rfl
  · rw [kind4 k]; rfl
  · rw [kind5 k]; rfl
  · rw [kind6 k]; rfl
  · rw [kind7 k]; rfl
  · rw [kind8 k]; rfl
  · rw [kind9 k]; rfl
  · rw [kind10 k]; rfl
  · rw [kind11 k]; rfl
  · exact absurd k h
  · rw [kind13 k]; rfl
  · rw [kind14 k]; rfl
theorem number_csr (o rd rs1 rs2 im n : Int) (h : 70 ≤ o ∧ o ≤ 75) (w : World) (hT : Tbl w) :
    Calls Tryz.prog 37 #[six o rd rs1 rs2 im n] w fun e w' => e = .returned (.int .u32 (numI o im : Nat)) ∧ w.grownBy w' none := by
  have HN := Lib.hid (show ((numI o im : Nat) : Int) = im % 4294967296 * 1048576 % 4294967296 from by rw [numI, if_pos h]; unfold low; omega)
  have HK := Lib.hid (show kindV o = 12 from kind12 h)
  have hS := held_new w hT o rd rs1 rs2 im n
  have HG := Lib.hid hS.gr
  have HT := Lib.hid hS.tbl
  obtain ⟨c0, c1, c2, c3, c4, c5, _, _, _⟩ := hS
  go_enter Tryz.func37, Tryz.ntmps37
  go_wp2_with fail
  refine (Kind_c o (by omega) _ HT.out).mono ?_
  rintro e w' ⟨rfl, rfl⟩
  rw [HK.out]
  go_wp2_with fail
  go_ret
  exact ⟨ret_int HN.out.symm, HG.out⟩
theorem number_no (o rd rs1 rs2 im n : Int) (ho : I64 o) (hi : I64 im) (h : ¬ (70 ≤ o ∧ o ≤ 75)) (w : World) (hT : Tbl w) :
    Calls Tryz.prog 37 #[six o rd rs1 rs2 im n] w fun e w' => e = .returned (.int .u32 (numI o im : Nat)) ∧ w.grownBy w' none := by
  rw [show numI o im = layV im (fmtV o) from if_neg h]
  have hk := not12 h
  have hS := held_new w hT o rd rs1 rs2 im n
  have HT := Lib.hid hS.tbl
  have hS0 := hS
  unfold Held at hS0
  clear hS
  have HF := Lib.hid (fmt_in o)
  have HC := Lib.hid (fun W h => Kind_c o ho W h)
  generalize kindV o = k at *
  have HO := Lib.hid (fun W h => format_c o ho W h)
  have HL := Lib.hid (fun W => Lay_c im (fmtV o) hi (by have := HF.out; omega) W)
  generalize layV im (fmtV o) = lv at *
  generalize layB im (fmtV o) = lb at *
  generalize fmtV o = f at *
  go_enter Tryz.func37, Tryz.ntmps37
  go_wp2_with fail
  refine (HC.out _ HT.out).mono ?_
  rintro e w' ⟨rfl, rfl⟩
  go_wp2_with fail
  generalize w.alloc (.cells #[.int .i64 o, .int .i64 rd, .int .i64 rs1, .int .i64 rs2, .int .i64 im, .int .i64 n] 23) = W at *
  generalize w.heap.size = b at *
  go_region_held3 (fun w' => w'.cell? ⟨b, 0, none⟩ = some (.int .i64 o) ∧ w'.cell? ⟨b, 1, none⟩ = some (.int .i64 rd) ∧ w'.cell? ⟨b, 2, none⟩ = some (.int .i64 rs1) ∧ w'.cell? ⟨b, 3, none⟩ = some (.int .i64 rs2) ∧ w'.cell? ⟨b, 4, none⟩ = some (.int .i64 im) ∧ w'.cell? ⟨b, 5, none⟩ = some (.int .i64 n) ∧ Row w' b 23 [.int .i64 o, .int .i64 rd, .int .i64 rs1, .int .i64 rs2, .int .i64 im, .int .i64 n] ∧ Tbl w' ∧ w.grownBy w' none)
    (first | assumption | (exact Held.on (gr_drew (gr_refl _ none)) (by assumption)) | (exact Held.on (by assumption) (by assumption)))
    (first
      | (go_at_call 75; refine (HO.out _ (Held.tbl (by assumption))).mono ?_; rintro e w' ⟨rfl, rfl⟩)
      | (go_at_call 74; refine (HL.out _).mono ?_; rintro e w' ⟨rfl, hg⟩))
  rename_i hHeld
  have hBe := Held.gr hHeld
  clear hHeld
  go_wp2_with fail
  go_ret
  exact ⟨rfl, hBe⟩
end Go.Proofs.YtpbeamnogfjagaaGreatDoor.E
end

section
namespace Go.Proofs.YtpbeamnogfjagaaGreatDoor.E
open Go Go.RowKit Go.Maps F W M D
set_option linter.unusedVariables false
set_option maxRecDepth 100000

/-- One field more. -/
theorem fld_step {P : Program} {w : World} {d : Nat} {xs ys : Array Value} {f : Field} {fs : List Field} {a b : Int} {r : Bool} (hn : f.name ≠ "_") (hx : (part f.type xs f.offset).run P w = .ok (.int .i64 a) w) (hy : (part f.type ys f.offset).run P w = .ok (.int .i64 b) w)
    (ht : P.underlying f.type = some (.int .i64)) (h : (Op.eqFields (d + 1) xs ys fs).run P w = .ok r w) : (Op.eqFields (d + 1) xs ys (f :: fs)).run P w = .ok (a == b && r) w := by
  rw [Op.eqFields, if_pos hn]
  simp only [Sem.run_bind, hx, hy, Result.andThen_ok, run_equalIn_int w d f.type .i64 .i64 a b ht]
  cases hab : (a == b)
  · simp
  · simpa using h
theorem fields_eq : (Tryz.prog.fieldsOf 23).toList = [(Tryz.prog.fieldsOf 23)[0]!, (Tryz.prog.fieldsOf 23)[1]!, (Tryz.prog.fieldsOf 23)[2]!, (Tryz.prog.fieldsOf 23)[3]!, (Tryz.prog.fieldsOf 23)[4]!, (Tryz.prog.fieldsOf 23)[5]!] := by kernel_rfl
theorem equal_run (a1 a2 a3 a4 a5 a6 b1 b2 b3 b4 b5 b6 : Int) (w : World) :
    (Op.equalIn 10000 23 (six a1 a2 a3 a4 a5 a6) (six b1 b2 b3 b4 b5 b6)).run Tryz.prog w = .ok (a1 == b1 && (a2 == b2 && (a3 == b3 && (a4 == b4 && (a5 == b5 && (a6 == b6 && true)))))) w := by
  rw [run_equalIn_agg w 9999 _ _ _ (by kernel_rfl) (by kernel_rfl), fields_eq]
  refine fld_step (d := 9998) (by decide +kernel) (by kernel_rfl) (by kernel_rfl) (by kernel_rfl) ?_
  refine fld_step (d := 9998) (by decide +kernel) (by kernel_rfl) (by kernel_rfl) (by kernel_rfl) ?_
  refine fld_step (d := 9998) (by decide +kernel) (by kernel_rfl) (by kernel_rfl) (by kernel_rfl) ?_
  refine fld_step (d := 9998) (by decide +kernel) (by kernel_rfl) (by kernel_rfl) (by kernel_rfl) ?_
  refine fld_step (d := 9998) (by decide +kernel) (by kernel_rfl) (by kernel_rfl) (by kernel_rfl) ?_
  refine fld_step (d := 9998) (by decide +kernel) (by kernel_rfl) (by kernel_rfl) (by kernel_rfl) ?_
  rfl
/-- Whether two instructions are the same. -/
def same6 (a1 a2 a3 a4 a5 a6 b1 b2 b3 b4 b5 b6 : Int) : Bool := decide (a1 = b1 ∧ a2 = b2 ∧ a3 = b3 ∧ a4 = b4 ∧ a5 = b5 ∧ a6 = b6)
theorem eql_run (a1 a2 a3 a4 a5 a6 b1 b2 b3 b4 b5 b6 : Int) (w : World) :
    (binOp .eql 23 (six a1 a2 a3 a4 a5 a6) (six b1 b2 b3 b4 b5 b6)).run Tryz.prog w = .ok (.bool (same6 a1 a2 a3 a4 a5 a6 b1 b2 b3 b4 b5 b6)) w := by
  rw [run_eql_struct, equal_run, Result.andThen_ok, same6]
  congr 2
  simp [Bool.decide_and]
  rfl
theorem neq_run (a1 a2 a3 a4 a5 a6 b1 b2 b3 b4 b5 b6 : Int) (w : World) :
    (binOp .neq 23 (six a1 a2 a3 a4 a5 a6) (six b1 b2 b3 b4 b5 b6)).run Tryz.prog w = .ok (.bool (!same6 a1 a2 a3 a4 a5 a6 b1 b2 b3 b4 b5 b6)) w := by
  rw [run_neq_struct, equal_run, Result.andThen_ok, same6]
  congr 2
  simp [Bool.decide_and]
  rfl
theorem same6_no {a1 a2 a3 a4 a5 a6 b1 b2 b3 b4 b5 b6 : Int} (h : ¬ (a1 = b1 ∧ a2 = b2 ∧ a3 = b3 ∧ a4 = b4 ∧ a5 = b5 ∧ a6 = b6)) : same6 a1 a2 a3 a4 a5 a6 b1 b2 b3 b4 b5 b6 = false := decide_eq_false h
theorem same6_yes {a1 a2 a3 a4 a5 a6 b1 b2 b3 b4 b5 b6 : Int} (h : a1 = b1 ∧ a2 = b2 ∧ a3 = b3 ∧ a4 = b4 ∧ a5 = b5 ∧ a6 = b6) : same6 a1 a2 a3 a4 a5 a6 b1 b2 b3 b4 b5 b6 = true := decide_eq_true h
theorem neq_yes {a1 a2 a3 a4 a5 a6 b1 b2 b3 b4 b5 b6 : Int} (h : ¬ (a1 = b1 ∧ a2 = b2 ∧ a3 = b3 ∧ a4 = b4 ∧ a5 = b5 ∧ a6 = b6)) (w : World) :
    (binOp .neq 23 (.agg #[.int .i64 a1, .int .i64 a2, .int .i64 a3, .int .i64 a4, .int .i64 a5, .int .i64 a6]) (.agg #[.int .i64 b1, .int .i64 b2, .int .i64 b3, .int .i64 b4, .int .i64 b5, .int .i64 b6])).run Tryz.prog w = .ok (.bool true) w := by
  have := neq_run a1 a2 a3 a4 a5 a6 b1 b2 b3 b4 b5 b6 w
  rw [same6_no h] at this
  exact this
end Go.Proofs.YtpbeamnogfjagaaGreatDoor.E
end

section
namespace Go.Proofs.YtpbeamnogfjagaaGreatDoor.E
open Go Go.RowKit Go.Maps F W M D
set_option linter.unusedVariables false
set_option maxRecDepth 100000

theorem or32 (a b : Nat) (ha : a < 4294967296) (hb : b < 4294967296) : bits .or .u32 (a : Int) (b : Int) = ((a ||| b : Nat) : Int) := by
  have h := (or_up32 a b 0 32 ha hb (by decide)).1
  rw [show (2 : Int) ^ 0 = 1 from rfl, Int.mul_one, IntKind.wrap_u32', Nat.shiftLeft_zero] at h
  rwa [show (b : Int) % 4294967296 = b by omega] at h
/-- A register's bits, as the program lays them. -/
def regI (r : Int) (k : Nat) : Nat := low r * 2 ^ k % 4294967296
theorem regI_lt (r : Int) (k : Nat) : regI r k < 4294967296 := Nat.mod_lt _ (by decide)
/-- The word that the program lays. -/
def layI (o rd rs1 rs2 im : Int) : Nat := put' (baseV o) (regI rd 7) (regI rs1 15) (regI rs2 20) (numI o im)
where put' (a b c d e : Nat) : Nat := a ||| b ||| c ||| d ||| e
theorem layI_lt (o rd rs1 rs2 im : Int) : layI o rd rs1 rs2 im < 4294967296 := by
  unfold layI layI.put'
  exact or_lt32 (or_lt32 (or_lt32 (or_lt32 (base_lt o) (regI_lt _ _)) (regI_lt _ _)) (regI_lt _ _)) (numI_lt _ _)
theorem layI_bits (o rd rs1 rs2 im : Int) :
    bits .or .u32 (bits .or .u32 (bits .or .u32 (bits .or .u32 ((baseV o : Nat) : Int) (rd % 4294967296 * 128 % 4294967296)) (rs1 % 4294967296 * 32768 % 4294967296)) (rs2 % 4294967296 * 1048576 % 4294967296)) ((numI o im : Nat) : Int) = (layI o rd rs1 rs2 im : Nat) := by
  have e7 : rd % 4294967296 * 128 % 4294967296 = ((regI rd 7 : Nat) : Int) := by unfold regI low; omega
  have e15 : rs1 % 4294967296 * 32768 % 4294967296 = ((regI rs1 15 : Nat) : Int) := by unfold regI low; omega
  have e20 : rs2 % 4294967296 * 1048576 % 4294967296 = ((regI rs2 20 : Nat) : Int) := by unfold regI low; omega
  have l0 := base_lt o
  have l1 := regI_lt rd 7
  have l2 := regI_lt rs1 15
  have l3 := regI_lt rs2 20
  have l4 := numI_lt o im
  rw [e7, e15, e20, or32 _ _ l0 l1, or32 _ _ (or_lt32 l0 l1) l2, or32 _ _ (or_lt32 (or_lt32 l0 l1) l2) l3, or32 _ _ (or_lt32 (or_lt32 (or_lt32 l0 l1) l2) l3) l4]
  rfl
theorem regI_in (r : Int) (k : Nat) (h : 0 ≤ r ∧ r ≤ 31) (hk : k ≤ 20) : regI r k = r.toNat <<< k := by
  have h1 : low r = r.toNat := by unfold low; omega
  have h2 := shl_lt (a := r.toNat) (k := k) (by omega) hk
  rw [regI, h1, ← Nat.shiftLeft_eq, Nat.mod_eq_of_lt h2]
theorem lay_0 (n : Int) : layV n 0 = 0 := by
  have : layB n 0 = false := by simp [layB, spn]
  rw [layV, this]; rfl
theorem numI_in (o : Int) (p : Parts) (h : D.Can o p) : numI o p.2.2.2 = numW o p.2.2.2 := by
  obtain ⟨rd, rs1, rs2, im⟩ := p
  obtain ⟨ho, _, _, _, hl⟩ := h
  simp only at hl ⊢
  unfold numI
  by_cases h : 70 ≤ o ∧ o ≤ 75
  · rw [if_pos h, num11 o im h]
    rw [lim15 _ _ _ _ _ h] at hl
    have h1 : low im = im.toNat := by unfold low; omega
    rw [h1, Nat.shiftLeft_eq, Nat.mod_eq_of_lt (by have := hl.2; omega)]
  · rw [if_neg h]
    rcases (show o ≤ 0 ∨ (1 ≤ o ∧ o ≤ 2) ∨ (3 ≤ o ∧ o ≤ 3) ∨ (4 ≤ o ∧ o ≤ 4) ∨ (5 ≤ o ∧ o ≤ 10) ∨ (11 ≤ o ∧ o ≤ 17) ∨ (18 ≤ o ∧ o ≤ 21) ∨ (22 ≤ o ∧ o ≤ 30) ∨ (31 ≤ o ∧ o ≤ 40) ∨ (41 ≤ o ∧ o ≤ 44) ∨ (45 ≤ o ∧ o ≤ 69) ∨ 76 ≤ o by omega) with k | k | k | k | k | k | k | k | k | k | k | k
    · rw [fmt0 k, num0 o im k, lay_0]
    · rw [fmt1 k, num1 o im k]
    · rw [fmt2 k, num2 o im k]
    · rw [fmt3 k, num3 o im k]
    · rw [fmt4 k, num4 o im k]
    · rw [fmt5 k, num5 o im k]
    · rw [fmt6 k, num6 o im k]
    · rw [fmt7 k, num7 o im k]
    · rw [fmt8 k, num8 o im k, lay_0]
    · rw [fmt9 k, num9 o im k]
    · rw [fmt10 k.1, num10 o im k, lay_0]
    · rw [fmt10 (by omega), num12 o im k, lay_0]
/-- Of what a word can say the program lays the least word. -/
theorem layI_can (o rd rs1 rs2 im : Int) (h : D.Can o (rd, rs1, rs2, im)) : layI o rd rs1 rs2 im = layW o (rd, rs1, rs2, im) := by
  have hn := numI_in o _ h
  obtain ⟨ho, h1, h2, h3, hl⟩ := h
  unfold layI layI.put' layW D.put
  rw [regI_in rd 7 h1 (by omega), regI_in rs1 15 h2 (by omega), regI_in rs2 20 h3 (by omega), hn]
set_option maxHeartbeats 4000000 in
theorem lay_c (o rd rs1 rs2 im n : Int) (ho : I64 o) (h1 : I64 rd) (h2 : I64 rs1) (h3 : I64 rs2) (hi : I64 im) (w : World) (hT : Tbl w) :
    Calls Tryz.prog 18 #[six o rd rs1 rs2 im n] w fun e w' => e = .returned (.int .u32 (layI o rd rs1 rs2 im : Nat)) ∧ w.grownBy w' none := by
  have HB := Lib.hid (layI_bits o rd rs1 rs2 im)
  have hS := held_new w hT o rd rs1 rs2 im n
  have hS0 := hS
  unfold Held at hS0
  clear hS
  have HC := Lib.hid (fun W h => least_c o ho W h)
  have HL := Lib.hid (fun W h => (show Calls Tryz.prog 37 #[six o rd rs1 rs2 im n] W fun e w' => e = .returned (.int .u32 (numI o im : Nat)) ∧ W.grownBy w' none from by
    by_cases hc : 70 ≤ o ∧ o ≤ 75
    · exact number_csr o rd rs1 rs2 im n hc W h
    · exact number_no o rd rs1 rs2 im n ho hi hc W h))
  have lb := base_lt o
  have ln := numI_lt o im
  obtain ⟨v, hv⟩ : ∃ v : Int, v = (layI o rd rs1 rs2 im : Nat) := ⟨_, rfl⟩
  rw [← hv] at HB ⊢
  clear hv
  generalize baseV o = lv at *
  generalize numI o im = lu at *
  go_enter Tryz.func18, Tryz.ntmps18
  go_wp2_with fail
  generalize w.alloc (.cells #[.int .i64 o, .int .i64 rd, .int .i64 rs1, .int .i64 rs2, .int .i64 im, .int .i64 n] 23) = W at *
  generalize w.heap.size = b at *
  go_region_held3 (fun w' => w'.cell? ⟨b, 0, none⟩ = some (.int .i64 o) ∧ w'.cell? ⟨b, 1, none⟩ = some (.int .i64 rd) ∧ w'.cell? ⟨b, 2, none⟩ = some (.int .i64 rs1) ∧ w'.cell? ⟨b, 3, none⟩ = some (.int .i64 rs2) ∧ w'.cell? ⟨b, 4, none⟩ = some (.int .i64 im) ∧ w'.cell? ⟨b, 5, none⟩ = some (.int .i64 n) ∧ Row w' b 23 [.int .i64 o, .int .i64 rd, .int .i64 rs1, .int .i64 rs2, .int .i64 im, .int .i64 n] ∧ Tbl w' ∧ w.grownBy w' none)
    (first | assumption | (exact Held.on (gr_drew (gr_refl _ none)) (by assumption)) | (exact Held.on (by assumption) (by assumption)))
    (first
      | (go_at_call 36; refine (HC.out _ (Held.tbl (by assumption))).mono ?_; rintro e w' ⟨rfl, hg⟩)
      | (go_at_call 37; refine (HL.out _ (Held.tbl (by assumption))).mono ?_; rintro e w' ⟨rfl, hg⟩))
  rename_i hHeld
  have hBe := Held.gr hHeld
  clear hHeld
  go_wp2_with fail
  go_ret
  exact ⟨ret_int HB.out, hBe⟩

/-- Whether there is a word, and which. -/
def okE (o rd rs1 rs2 im n : Int) : Bool := decide (D.wordV (layI o rd rs1 rs2 im) = (o, rd, rs1, rs2, im) ∧ n = 4)
def wordE (o rd rs1 rs2 im n : Int) : Nat := if okE o rd rs1 rs2 im n = true then layI o rd rs1 rs2 im else 0
theorem okE_iff (o rd rs1 rs2 im n : Int) : okE o rd rs1 rs2 im n = true ↔ D.Can o (rd, rs1, rs2, im) ∧ n = 4 := by
  unfold okE
  rw [decide_eq_true_iff]
  constructor
  · rintro ⟨h, rfl⟩
    have := word_can (layI o rd rs1 rs2 im)
    rw [h] at this
    exact ⟨this, rfl⟩
  · rintro ⟨h, rfl⟩
    rw [layI_can _ _ _ _ _ h]
    exact ⟨(lay_word _ _ h).2, rfl⟩
set_option maxHeartbeats 4000000 in
theorem Word_yes (o rd rs1 rs2 im n : Int) (ho : I64 o) (h1 : I64 rd) (h2 : I64 rs1) (h3 : I64 rs2) (hi : I64 im) (h : okE o rd rs1 rs2 im n = true) (w : World) (hT : Tbl w) :
    Calls Tryz.prog 9 #[six o rd rs1 rs2 im n] w fun e w' => e = .returned (.tuple #[.int .u32 (layI o rd rs1 rs2 im : Nat), .bool true]) ∧ w.grownBy w' none := by
  have hS := held_new w hT o rd rs1 rs2 im n
  unfold okE at h
  rw [decide_eq_true_iff] at h
  obtain ⟨h, rfl⟩ := h
  have HC := Lib.hid (fun W h => lay_c o rd rs1 rs2 im 4 ho h1 h2 h3 hi W h)
  have HW := Lib.hid (fun W => Word_at (layI_lt o rd rs1 rs2 im) h W)
  clear h
  generalize layI o rd rs1 rs2 im = v at *
  have HT := Lib.hid hS.tbl
  have HS := Lib.hid hS
  obtain ⟨c0, c1, c2, c3, c4, c5, _, _, _⟩ := hS
  go_enter Tryz.func9, Tryz.ntmps9
  go_wp2_with fail
  refine (HC.out _ HT.out).mono ?_
  rintro e w1 ⟨rfl, hG1⟩
  have hS0 := HS.out.on hG1
  unfold Held at hS0
  clear c0 c1 c2 c3 c4 c5 hG1 HS HT
  generalize w.heap.size = b at *
  go_wp2_with fail
  go_region_held3 (fun w' => w'.cell? ⟨b, 0, none⟩ = some (.int .i64 o) ∧ w'.cell? ⟨b, 1, none⟩ = some (.int .i64 rd) ∧ w'.cell? ⟨b, 2, none⟩ = some (.int .i64 rs1) ∧ w'.cell? ⟨b, 3, none⟩ = some (.int .i64 rs2) ∧ w'.cell? ⟨b, 4, none⟩ = some (.int .i64 im) ∧ w'.cell? ⟨b, 5, none⟩ = some (.int .i64 4) ∧ Row w' b 23 [.int .i64 o, .int .i64 rd, .int .i64 rs1, .int .i64 rs2, .int .i64 im, .int .i64 4] ∧ Tbl w' ∧ w.grownBy w' none)
    (first | assumption | (exact Held.on (gr_drew (gr_refl _ none)) (by assumption)) | (exact Held.on (by assumption) (by assumption)))
    ((go_at_call 19; refine (HW.out _).mono ?_; rintro e w' ⟨rfl, hg⟩))
  rename_i hHeld
  have hBe := Held.gr hHeld
  clear hHeld
  go_wp2_with fail
  go_ret2
  exact ⟨rfl, hBe⟩
set_option maxHeartbeats 4000000 in
theorem Word_no (o rd rs1 rs2 im n : Int) (ho : I64 o) (h1 : I64 rd) (h2 : I64 rs1) (h3 : I64 rs2) (hi : I64 im) (h : okE o rd rs1 rs2 im n = false) (w : World) (hT : Tbl w) :
    Calls Tryz.prog 9 #[six o rd rs1 rs2 im n] w fun e w' => e = .returned (.tuple #[.int .u32 0, .bool false]) ∧ w.grownBy w' none := by
  have hS := held_new w hT o rd rs1 rs2 im n
  unfold okE at h
  rw [decide_eq_false_iff_not] at h
  have HC := Lib.hid (fun W h => lay_c o rd rs1 rs2 im n ho h1 h2 h3 hi W h)
  have HW := Lib.hid (fun W => Word_c (layI o rd rs1 rs2 im) (layI_lt o rd rs1 rs2 im) W)
  generalize D.wordV (layI o rd rs1 rs2 im) = q at *
  obtain ⟨a1, a2, a3, a4, a5⟩ := q
  have hne : ¬ (a1 = o ∧ a2 = rd ∧ a3 = rs1 ∧ a4 = rs2 ∧ a5 = im ∧ 4 = n) := fun ⟨e1, e2, e3, e4, e5, e6⟩ => h ⟨by rw [e1, e2, e3, e4, e5], e6.symm⟩
  have hq := fun W => neq_yes hne W
  clear h hne
  generalize layI o rd rs1 rs2 im = v at *
  have HT := Lib.hid hS.tbl
  have HS := Lib.hid hS
  obtain ⟨c0, c1, c2, c3, c4, c5, _, _, _⟩ := hS
  go_enter Tryz.func9, Tryz.ntmps9
  go_wp2_with fail
  refine (HC.out _ HT.out).mono ?_
  rintro e w1 ⟨rfl, hG1⟩
  have hS0 := HS.out.on hG1
  unfold Held at hS0
  clear c0 c1 c2 c3 c4 c5 hG1 HS HT
  generalize w.heap.size = b at *
  go_wp2_with fail
  go_region_held3 (fun w' => w'.cell? ⟨b, 0, none⟩ = some (.int .i64 o) ∧ w'.cell? ⟨b, 1, none⟩ = some (.int .i64 rd) ∧ w'.cell? ⟨b, 2, none⟩ = some (.int .i64 rs1) ∧ w'.cell? ⟨b, 3, none⟩ = some (.int .i64 rs2) ∧ w'.cell? ⟨b, 4, none⟩ = some (.int .i64 im) ∧ w'.cell? ⟨b, 5, none⟩ = some (.int .i64 n) ∧ Row w' b 23 [.int .i64 o, .int .i64 rd, .int .i64 rs1, .int .i64 rs2, .int .i64 im, .int .i64 n] ∧ Tbl w' ∧ w.grownBy w' none)
    (first | assumption | (exact Held.on (gr_drew (gr_refl _ none)) (by assumption)) | (exact Held.on (by assumption) (by assumption)))
    ((go_at_call 19; refine (HW.out _).mono ?_; rintro e w' ⟨rfl, hg⟩; simp only [insn]))
  rename_i hHeld
  have hBe := Held.gr hHeld
  clear hHeld
  go_wp2_with fail
  go_ret2
  exact ⟨rfl, hBe⟩
theorem Word_e (o rd rs1 rs2 im n : Int) (ho : I64 o) (h1 : I64 rd) (h2 : I64 rs1) (h3 : I64 rs2) (hi : I64 im) (w : World) (hT : Tbl w) :
    Calls Tryz.prog 9 #[six o rd rs1 rs2 im n] w fun e w' => e = .returned (.tuple #[.int .u32 (wordE o rd rs1 rs2 im n : Nat), .bool (okE o rd rs1 rs2 im n)]) ∧ w.grownBy w' none := by
  unfold wordE
  by_cases h : okE o rd rs1 rs2 im n = true
  · rw [if_pos h, h]
    exact Word_yes o rd rs1 rs2 im n ho h1 h2 h3 hi h w hT
  · rw [if_neg h, Bool.eq_false_iff.2 h]
    exact Word_no o rd rs1 rs2 im n ho h1 h2 h3 hi (Bool.eq_false_iff.2 h) w hT
end Go.Proofs.YtpbeamnogfjagaaGreatDoor.E
end
