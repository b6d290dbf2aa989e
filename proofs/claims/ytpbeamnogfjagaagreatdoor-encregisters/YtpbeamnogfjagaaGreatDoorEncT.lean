/-
  What the tables of package enc are: maps that a call makes, and what is looked up in them: contracts over the program's translation.
  Conditions: the arguments are numbers of their kinds.
-/
import Derived.Test.YtpbeamnogfjagaaGreatDoorDecK
import Derived.Test.YtpbeamnogfjagaaGreatDoorEncX
namespace Go.Proofs.YtpbeamnogfjagaaGreatDoor.E
open Go Go.RowKit Go.Maps F W M D
set_option linter.unusedVariables false
set_option maxRecDepth 100000

theorem keyedI : Keyed Tryz.prog 3 := int_keyed Tryz.underlying3
theorem zeroU (w : World) : (zeroValue 25).run Tryz.prog w = .ok (.int .u32 0) w := by kernel_rfl
/-- What a map of these rows reads as (the last row was put first). -/
def dat : Rws → DataW Unit
  | [] => .map []
  | (a, b) :: L => (dat L).put (.int .i64 a) (.lit (.int .u32 b))
theorem dat_map : ∀ L, IsMap (dat L)
  | [] => ⟨[], rfl⟩
  | (a, b) :: L => (dat_map L).put _ _
theorem dat_at (k : Int) : ∀ L, (dat L).atKey (.int .i64 k) (.lit (.int .u32 0)) = .lit (.int .u32 (D.look L k))
  | [] => rfl
  | (a, b) :: L => by
    rw [dat, D.look]
    by_cases h : k = a
    · subst h
      rw [if_pos rfl, atKey_put_same (dat_map L) (by exact trivial)]
    · rw [if_neg h, atKey_put_other (by intro e; injection e with _ e; exact h e)]
      exact dat_at k L
/-- The value is a map of these rows. -/
def Tab (w : World) (m : Value) (L : Rws) : Prop := ∃ b, m = .map (some b) ∧ w.ownsMap Tryz.prog 3 (plainElem (H := Unit) Tryz.prog 25) b L.length (dat L)
theorem wfI {k : Int} (h : -9223372036854775808 ≤ k ∧ k ≤ 9223372036854775807) : (Lit.int .i64 k).wf = true := WalkArith.wf_i64 h
theorem Tab.look {w : World} {m : Value} {L : Rws} (h : Tab w m L) (k : Int) (hk : -9223372036854775808 ≤ k ∧ k ≤ 9223372036854775807) :
    (Instr.lookup 78 m (.int .i64 k) false).run Tryz.prog w = .ok (.int .u32 (D.look L k)) w := by
  obtain ⟨b, rfl, ho⟩ := h
  obtain ⟨c, hr, ha, _⟩ := ho.lookup_int keyedI Tryz.underlying78 Tryz.underlying25 (zeroU w) (keyOf_int_mk Tryz.underlying3 (wfI hk))
  rw [dat_at] at ha
  injection ha with ha
  injection ha with _ ha
  rw [hr, ha]
theorem upd {w : World} {b n : Nat} {D : DataW Unit} (h : w.ownsMap Tryz.prog 3 (plainElem (H := Unit) Tryz.prog 25) b n D) (hn : n < maxLen) (k v : Int) (hk : -9223372036854775808 ≤ k ∧ k ≤ 9223372036854775807) (hv : 0 ≤ v ∧ v ≤ 4294967295) :
    ∃ w', (Instr.mapUpdate 78 (.map (some b)) (.int .i64 k) (.int .u32 v)).run Tryz.prog w = .ok () w' ∧ w'.ownsMap Tryz.prog 3 (plainElem (H := Unit) Tryz.prog 25) b (n + 1) (D.put (.int .i64 k) (.lit (.int .u32 v))) ∧ w.grownBy w' (some b) :=
  h.update keyedI Tryz.underlying78 hn (keyOf_int_mk Tryz.underlying3 (wfI hk)) (plainElem_int Tryz.underlying25 (wf32 hv))
/-- A call that hands back a map of these rows. -/
def Gives (w : World) (L : Rws) (e : Ending) (w' : World) : Prop := ∃ m, e = .returned m ∧ Tab w' m L ∧ w.grownBy w' none
theorem gives {w w' : World} {L : Rws} (ho : w'.ownsMap Tryz.prog 3 (plainElem (H := Unit) Tryz.prog 25) w.heap.size L.length (dat L)) (hg : w.grownBy w' (some w.heap.size)) :
    Gives w L (.returned (.map (some w.heap.size))) w' := ⟨_, rfl, ⟨_, rfl, ho⟩, gr_row hg (Nat.le_refl _)⟩

def t_jumps : Rws := [(4, 103), (3, 111), (2, 23), (1, 55)]
def t_branches : Rws := [(10, 28771), (9, 24675), (8, 20579), (7, 16483), (6, 4195), (5, 99)]
def t_loads : Rws := [(17, 24579), (16, 20483), (15, 16387), (14, 12291), (13, 8195), (12, 4099), (11, 3)]
def t_stores : Rws := [(21, 12323), (20, 8227), (19, 4131), (18, 35)]
def t_numbers : Rws := [(30, 1073762323), (29, 20499), (28, 4115), (27, 28691), (26, 24595), (25, 16403), (24, 12307), (23, 8211), (22, 19)]
def t_registers : Rws := [(40, 28723), (39, 24627), (38, 1073762355), (37, 20531), (36, 16435), (35, 12339), (34, 8243), (33, 4147), (32, 1073741875), (31, 51)]
def t_numbers32 : Rws := [(44, 1073762331), (43, 20507), (42, 4123), (41, 27)]
def t_registers32 : Rws := [(49, 1073762363), (48, 20539), (47, 4155), (46, 1073741883), (45, 59)]
def t_products : Rws := [(57, 33583155), (56, 33579059), (55, 33574963), (54, 33570867), (53, 33566771), (52, 33562675), (51, 33558579), (50, 33554483)]
def t_products32 : Rws := [(62, 33583163), (61, 33579067), (60, 33574971), (59, 33570875), (58, 33554491)]
def t_systems : Rws := [(69, 301990003), (68, 273678451), (67, 270532723), (66, 1048691), (65, 115), (64, 4111), (63, 15)]
def t_csrs : Rws := [(75, 28787), (74, 24691), (73, 20595), (72, 12403), (71, 8307), (70, 4211)]
def t_atomics : Rws := [(86, 3758104623), (85, 3221233711), (84, 2684362799), (83, 2147491887), (82, 1073750063), (81, 1610620975), (80, 536879151), (79, 8239), (78, 134225967), (77, 402661423), (76, 268443695)]
theorem jumps_c (w : World) : Calls Tryz.prog 61 #[] w (Gives w t_jumps) := by
  have hmm := @run_makeMap Tryz.prog
  have o0 := World.ownsMap_made w Tryz.prog 3 (plainElem (H := Unit) Tryz.prog 25)
  obtain ⟨w1, r1, o1, g1⟩ := upd o0 (by decide) 1 55 (by decide) (by decide)
  obtain ⟨w2, r2, o2, g2⟩ := upd o1 (by decide) 2 23 (by decide) (by decide)
  obtain ⟨w3, r3, o3, g3⟩ := upd o2 (by decide) 3 111 (by decide) (by decide)
  obtain ⟨w4, r4, o4, g4⟩ := upd o3 (by decide) 4 103 (by decide) (by decide)
  go_enter Tryz.func61, Tryz.ntmps61
  go_wp2
  go_ret
  exact gives (L := t_jumps) o4 (gr_trans (gr_trans (gr_trans (gr_trans (gr_alloc (gr_refl w _) _) g1) g2) g3) g4)
theorem branches_c (w : World) : Calls Tryz.prog 62 #[] w (Gives w t_branches) := by
  have hmm := @run_makeMap Tryz.prog
  have o0 := World.ownsMap_made w Tryz.prog 3 (plainElem (H := Unit) Tryz.prog 25)
  obtain ⟨w1, r1, o1, g1⟩ := upd o0 (by decide) 5 99 (by decide) (by decide)
  obtain ⟨w2, r2, o2, g2⟩ := upd o1 (by decide) 6 4195 (by decide) (by decide)
  obtain ⟨w3, r3, o3, g3⟩ := upd o2 (by decide) 7 16483 (by decide) (by decide)
  obtain ⟨w4, r4, o4, g4⟩ := upd o3 (by decide) 8 20579 (by decide) (by decide)
  obtain ⟨w5, r5, o5, g5⟩ := upd o4 (by decide) 9 24675 (by decide) (by decide)
  obtain ⟨w6, r6, o6, g6⟩ := upd o5 (by decide) 10 28771 (by decide) (by decide)
  go_enter Tryz.func62, Tryz.ntmps62
  go_wp2
  go_ret
  exact gives (L := t_branches) o6 (gr_trans (gr_trans (gr_trans (gr_trans (gr_trans (gr_trans (gr_alloc (gr_refl w _) _) g1) g2) g3) g4) g5) g6)
theorem loads_c (w : World) : Calls Tryz.prog 63 #[] w (Gives w t_loads) := by
  have hmm := @run_makeMap Tryz.prog
  have o0 := World.ownsMap_made w Tryz.prog 3 (plainElem (H := Unit) Tryz.prog 25)
  obtain ⟨w1, r1, o1, g1⟩ := upd o0 (by decide) 11 3 (by decide) (by decide)
  obtain ⟨w2, r2, o2, g2⟩ := upd o1 (by decide) 12 4099 (by decide) (by decide)
  obtain ⟨w3, r3, o3, g3⟩ := upd o2 (by decide) 13 8195 (by decide) (by decide)
  obtain ⟨w4, r4, o4, g4⟩ := upd o3 (by decide) 14 12291 (by decide) (by decide)
  obtain ⟨w5, r5, o5, g5⟩ := upd o4 (by decide) 15 16387 (by decide) (by decide)
  obtain ⟨w6, r6, o6, g6⟩ := upd o5 (by decide) 16 20483 (by decide) (by decide)
  obtain ⟨w7, r7, o7, g7⟩ := upd o6 (by decide) 17 24579 (by decide) (by decide)
  go_enter Tryz.func63, Tryz.ntmps63
  go_wp2
  go_ret
  exact gives (L := t_loads) o7 (gr_trans (gr_trans (gr_trans (gr_trans (gr_trans (gr_trans (gr_trans (gr_alloc (gr_refl w _) _) g1) g2) g3) g4) g5) g6) g7)
theorem stores_c (w : World) : Calls Tryz.prog 64 #[] w (Gives w t_stores) := by
  have hmm := @run_makeMap Tryz.prog
  have o0 := World.ownsMap_made w Tryz.prog 3 (plainElem (H := Unit) Tryz.prog 25)
  obtain ⟨w1, r1, o1, g1⟩ := upd o0 (by decide) 18 35 (by decide) (by decide)
  obtain ⟨w2, r2, o2, g2⟩ := upd o1 (by decide) 19 4131 (by decide) (by decide)
  obtain ⟨w3, r3, o3, g3⟩ := upd o2 (by decide) 20 8227 (by decide) (by decide)
  obtain ⟨w4, r4, o4, g4⟩ := upd o3 (by decide) 21 12323 (by decide) (by decide)
  go_enter Tryz.func64, Tryz.ntmps64
  go_wp2
  go_ret
  exact gives (L := t_stores) o4 (gr_trans (gr_trans (gr_trans (gr_trans (gr_alloc (gr_refl w _) _) g1) g2) g3) g4)
theorem numbers_c (w : World) : Calls Tryz.prog 65 #[] w (Gives w t_numbers) := by
  have hmm := @run_makeMap Tryz.prog
  have o0 := World.ownsMap_made w Tryz.prog 3 (plainElem (H := Unit) Tryz.prog 25)
  obtain ⟨w1, r1, o1, g1⟩ := upd o0 (by decide) 22 19 (by decide) (by decide)
  obtain ⟨w2, r2, o2, g2⟩ := upd o1 (by decide) 23 8211 (by decide) (by decide)
  obtain ⟨w3, r3, o3, g3⟩ := upd o2 (by decide) 24 12307 (by decide) (by decide)
  obtain ⟨w4, r4, o4, g4⟩ := upd o3 (by decide) 25 16403 (by decide) (by decide)
  obtain ⟨w5, r5, o5, g5⟩ := upd o4 (by decide) 26 24595 (by decide) (by decide)
  obtain ⟨w6, r6, o6, g6⟩ := upd o5 (by decide) 27 28691 (by decide) (by decide)
  obtain ⟨w7, r7, o7, g7⟩ := upd o6 (by decide) 28 4115 (by decide) (by decide)
  obtain ⟨w8, r8, o8, g8⟩ := upd o7 (by decide) 29 20499 (by decide) (by decide)
  obtain ⟨w9, r9, o9, g9⟩ := upd o8 (by decide) 30 1073762323 (by decide) (by decide)
  go_enter Tryz.func65, Tryz.ntmps65
  go_wp2
  go_ret
  exact gives (L := t_numbers) o9 (gr_trans (gr_trans (gr_trans (gr_trans (gr_trans (gr_trans (gr_trans (gr_trans (gr_trans (gr_alloc (gr_refl w _) _) g1) g2) g3) g4) g5) g6) g7) g8) g9)
theorem registers_c (w : World) : Calls Tryz.prog 66 #[] w (Gives w t_registers) := by
  have hmm := @run_makeMap Tryz.prog
  have o0 := World.ownsMap_made w Tryz.prog 3 (plainElem (H := Unit) Tryz.prog 25)
  obtain ⟨w1, r1, o1, g1⟩ := upd o0 (by decide) 31 51 (by decide) (by decide)
  obtain ⟨w2, r2, o2, g2⟩ := upd o1 (by decide) 32 1073741875 (by decide) (by decide)
  obtain ⟨w3, r3, o3, g3⟩ := upd o2 (by decide) 33 4147 (by decide) (by decide)
  obtain ⟨w4, r4, o4, g4⟩ := upd o3 (by decide) 34 8243 (by decide) (by decide)
  obtain ⟨w5, r5, o5, g5⟩ := upd o4 (by decide) 35 12339 (by decide) (by decide)
  obtain ⟨w6, r6, o6, g6⟩ := upd o5 (by decide) 36 16435 (by decide) (by decide)
  obtain ⟨w7, r7, o7, g7⟩ := upd o6 (by decide) 37 20531 (by decide) (by decide)
  obtain ⟨w8, r8, o8, g8⟩ := upd o7 (by decide) 38 1073762355 (by decide) (by decide)
  obtain ⟨w9, r9, o9, g9⟩ := upd o8 (by decide) 39 24627 (by decide) (by decide)
  obtain ⟨w10, r10, o10, g10⟩ := upd o9 (by decide) 40 28723 (by decide) (by decide)
  go_enter Tryz.func66, Tryz.ntmps66
  go_wp2
  go_ret
  exact gives (L := t_registers) o10 (gr_trans (gr_trans (gr_trans (gr_trans (gr_trans (gr_trans (gr_trans (gr_trans (gr_trans (gr_trans (gr_alloc (gr_refl w _) _) g1) g2) g3) g4) g5) g6) g7) g8) g9) g10)
theorem numbers32_c (w : World) : Calls Tryz.prog 67 #[] w (Gives w t_numbers32) := by
  have hmm := @run_makeMap Tryz.prog
  have o0 := World.ownsMap_made w Tryz.prog 3 (plainElem (H := Unit) Tryz.prog 25)
  obtain ⟨w1, r1, o1, g1⟩ := upd o0 (by decide) 41 27 (by decide) (by decide)
  obtain ⟨w2, r2, o2, g2⟩ := upd o1 (by decide) 42 4123 (by decide) (by decide)
  obtain ⟨w3, r3, o3, g3⟩ := upd o2 (by decide) 43 20507 (by decide) (by decide)
  obtain ⟨w4, r4, o4, g4⟩ := upd o3 (by decide) 44 1073762331 (by decide) (by decide)
  go_enter Tryz.func67, Tryz.ntmps67
  go_wp2
  go_ret
  exact gives (L := t_numbers32) o4 (gr_trans (gr_trans (gr_trans (gr_trans (gr_alloc (gr_refl w _) _) g1) g2) g3) g4)
theorem registers32_c (w : World) : Calls Tryz.prog 68 #[] w (Gives w t_registers32) := by
  have hmm := @run_makeMap Tryz.prog
  have o0 := World.ownsMap_made w Tryz.prog 3 (plainElem (H := Unit) Tryz.prog 25)
  obtain ⟨w1, r1, o1, g1⟩ := upd o0 (by decide) 45 59 (by decide) (by decide)
  obtain ⟨w2, r2, o2, g2⟩ := upd o1 (by decide) 46 1073741883 (by decide) (by decide)
  obtain ⟨w3, r3, o3, g3⟩ := upd o2 (by decide) 47 4155 (by decide) (by decide)
  obtain ⟨w4, r4, o4, g4⟩ := upd o3 (by decide) 48 20539 (by decide) (by decide)
  obtain ⟨w5, r5, o5, g5⟩ := upd o4 (by decide) 49 1073762363 (by decide) (by decide)
  go_enter Tryz.func68, Tryz.ntmps68
  go_wp2
  go_ret
  exact gives (L := t_registers32) o5 (gr_trans (gr_trans (gr_trans (gr_trans (gr_trans (gr_alloc (gr_refl w _) _) g1) g2) g3) g4) g5)
theorem products_c (w : World) : Calls Tryz.prog 69 #[] w (Gives w t_products) := by
  have hmm := @run_makeMap Tryz.prog
  have o0 := World.ownsMap_made w Tryz.prog 3 (plainElem (H := Unit) Tryz.prog 25)
  obtain ⟨w1, r1, o1, g1⟩ := upd o0 (by decide) 50 33554483 (by decide) (by decide)
  obtain ⟨w2, r2, o2, g2⟩ := upd o1 (by decide) 51 33558579 (by decide) (by decide)
  obtain ⟨w3, r3, o3, g3⟩ := upd o2 (by decide) 52 33562675 (by decide) (by decide)
  obtain ⟨w4, r4, o4, g4⟩ := upd o3 (by decide) 53 33566771 (by decide) (by decide)
  obtain ⟨w5, r5, o5, g5⟩ := upd o4 (by decide) 54 33570867 (by decide) (by decide)
  obtain ⟨w6, r6, o6, g6⟩ := upd o5 (by decide) 55 33574963 (by decide) (by decide)
  obtain ⟨w7, r7, o7, g7⟩ := upd o6 (by decide) 56 33579059 (by decide) (by decide)
  obtain ⟨w8, r8, o8, g8⟩ := upd o7 (by decide) 57 33583155 (by decide) (by decide)
  go_enter Tryz.func69, Tryz.ntmps69
  go_wp2
  go_ret
  exact gives (L := t_products) o8 (gr_trans (gr_trans (gr_trans (gr_trans (gr_trans (gr_trans (gr_trans (gr_trans (gr_alloc (gr_refl w _) _) g1) g2) g3) g4) g5) g6) g7) g8)
theorem products32_c (w : World) : Calls Tryz.prog 70 #[] w (Gives w t_products32) := by
  have hmm := @run_makeMap Tryz.prog
  have o0 := World.ownsMap_made w Tryz.prog 3 (plainElem (H := Unit) Tryz.prog 25)
  obtain ⟨w1, r1, o1, g1⟩ := upd o0 (by decide) 58 33554491 (by decide) (by decide)
  obtain ⟨w2, r2, o2, g2⟩ := upd o1 (by decide) 59 33570875 (by decide) (by decide)
  obtain ⟨w3, r3, o3, g3⟩ := upd o2 (by decide) 60 33574971 (by decide) (by decide)
  obtain ⟨w4, r4, o4, g4⟩ := upd o3 (by decide) 61 33579067 (by decide) (by decide)
  obtain ⟨w5, r5, o5, g5⟩ := upd o4 (by decide) 62 33583163 (by decide) (by decide)
  go_enter Tryz.func70, Tryz.ntmps70
  go_wp2
  go_ret
  exact gives (L := t_products32) o5 (gr_trans (gr_trans (gr_trans (gr_trans (gr_trans (gr_alloc (gr_refl w _) _) g1) g2) g3) g4) g5)
theorem systems_c (w : World) : Calls Tryz.prog 71 #[] w (Gives w t_systems) := by
  have hmm := @run_makeMap Tryz.prog
  have o0 := World.ownsMap_made w Tryz.prog 3 (plainElem (H := Unit) Tryz.prog 25)
  obtain ⟨w1, r1, o1, g1⟩ := upd o0 (by decide) 63 15 (by decide) (by decide)
  obtain ⟨w2, r2, o2, g2⟩ := upd o1 (by decide) 64 4111 (by decide) (by decide)
  obtain ⟨w3, r3, o3, g3⟩ := upd o2 (by decide) 65 115 (by decide) (by decide)
  obtain ⟨w4, r4, o4, g4⟩ := upd o3 (by decide) 66 1048691 (by decide) (by decide)
  obtain ⟨w5, r5, o5, g5⟩ := upd o4 (by decide) 67 270532723 (by decide) (by decide)
  obtain ⟨w6, r6, o6, g6⟩ := upd o5 (by decide) 68 273678451 (by decide) (by decide)
  obtain ⟨w7, r7, o7, g7⟩ := upd o6 (by decide) 69 301990003 (by decide) (by decide)
  go_enter Tryz.func71, Tryz.ntmps71
  go_wp2
  go_ret
  exact gives (L := t_systems) o7 (gr_trans (gr_trans (gr_trans (gr_trans (gr_trans (gr_trans (gr_trans (gr_alloc (gr_refl w _) _) g1) g2) g3) g4) g5) g6) g7)
theorem csrs_c (w : World) : Calls Tryz.prog 72 #[] w (Gives w t_csrs) := by
  have hmm := @run_makeMap Tryz.prog
  have o0 := World.ownsMap_made w Tryz.prog 3 (plainElem (H := Unit) Tryz.prog 25)
  obtain ⟨w1, r1, o1, g1⟩ := upd o0 (by decide) 70 4211 (by decide) (by decide)
  obtain ⟨w2, r2, o2, g2⟩ := upd o1 (by decide) 71 8307 (by decide) (by decide)
  obtain ⟨w3, r3, o3, g3⟩ := upd o2 (by decide) 72 12403 (by decide) (by decide)
  obtain ⟨w4, r4, o4, g4⟩ := upd o3 (by decide) 73 20595 (by decide) (by decide)
  obtain ⟨w5, r5, o5, g5⟩ := upd o4 (by decide) 74 24691 (by decide) (by decide)
  obtain ⟨w6, r6, o6, g6⟩ := upd o5 (by decide) 75 28787 (by decide) (by decide)
  go_enter Tryz.func72, Tryz.ntmps72
  go_wp2
  go_ret
  exact gives (L := t_csrs) o6 (gr_trans (gr_trans (gr_trans (gr_trans (gr_trans (gr_trans (gr_alloc (gr_refl w _) _) g1) g2) g3) g4) g5) g6)
theorem atomics_c (w : World) : Calls Tryz.prog 73 #[] w (Gives w t_atomics) := by
  have hmm := @run_makeMap Tryz.prog
  have o0 := World.ownsMap_made w Tryz.prog 3 (plainElem (H := Unit) Tryz.prog 25)
  obtain ⟨w1, r1, o1, g1⟩ := upd o0 (by decide) 76 268443695 (by decide) (by decide)
  obtain ⟨w2, r2, o2, g2⟩ := upd o1 (by decide) 77 402661423 (by decide) (by decide)
  obtain ⟨w3, r3, o3, g3⟩ := upd o2 (by decide) 78 134225967 (by decide) (by decide)
  obtain ⟨w4, r4, o4, g4⟩ := upd o3 (by decide) 79 8239 (by decide) (by decide)
  obtain ⟨w5, r5, o5, g5⟩ := upd o4 (by decide) 80 536879151 (by decide) (by decide)
  obtain ⟨w6, r6, o6, g6⟩ := upd o5 (by decide) 81 1610620975 (by decide) (by decide)
  obtain ⟨w7, r7, o7, g7⟩ := upd o6 (by decide) 82 1073750063 (by decide) (by decide)
  obtain ⟨w8, r8, o8, g8⟩ := upd o7 (by decide) 83 2147491887 (by decide) (by decide)
  obtain ⟨w9, r9, o9, g9⟩ := upd o8 (by decide) 84 2684362799 (by decide) (by decide)
  obtain ⟨w10, r10, o10, g10⟩ := upd o9 (by decide) 85 3221233711 (by decide) (by decide)
  obtain ⟨w11, r11, o11, g11⟩ := upd o10 (by decide) 86 3758104623 (by decide) (by decide)
  go_enter Tryz.func73, Tryz.ntmps73
  go_wp2
  go_ret
  exact gives (L := t_atomics) o11 (gr_trans (gr_trans (gr_trans (gr_trans (gr_trans (gr_trans (gr_trans (gr_trans (gr_trans (gr_trans (gr_trans (gr_alloc (gr_refl w _) _) g1) g2) g3) g4) g5) g6) g7) g8) g9) g10) g11)
end Go.Proofs.YtpbeamnogfjagaaGreatDoor.E
