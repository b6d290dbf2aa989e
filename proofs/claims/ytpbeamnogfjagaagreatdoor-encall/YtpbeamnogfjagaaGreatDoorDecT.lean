/-
  What the tables of package decode are: maps that a call makes, and what is looked up in them: contracts over the program's translation.
  Conditions: the arguments are numbers of their kinds.
-/
import Derived.Test.YtpbeamnogfjagaaGreatDoorProg
import Derived.Test.YtpbeamnogfjagaaGreatDoorDecV
import Derived.Test.YtpbeamnogfjagaaGreatDoorFieldK
import Derived.Maps.OwnOps
import Derived.Maps.OwnSet
import Derived.Maps.Views
namespace Go.Proofs.YtpbeamnogfjagaaGreatDoor
open Go Go.RowKit Go.Maps F W M D
set_option linter.unusedVariables false

theorem keyed32 : Keyed Tryz.prog 25 := int_keyed Tryz.underlying25
theorem zero64 (w : World) : (zeroValue 3).run Tryz.prog w = .ok (.int .i64 0) w := by kernel_rfl

/-- What a map of these rows reads as (the last row was put first). -/
def dat : Rws → DataW Unit
  | [] => .map []
  | (a, b) :: L => (dat L).put (.int .u32 a) (.lit (.int .i64 b))
theorem dat_map : ∀ L, IsMap (dat L)
  | [] => ⟨[], rfl⟩
  | (a, b) :: L => (dat_map L).put _ _
theorem dat_at (k : Int) : ∀ L, (dat L).atKey (.int .u32 k) (.lit (.int .i64 0)) = .lit (.int .i64 (D.look L k))
  | [] => rfl
  | (a, b) :: L => by
    rw [dat, D.look]
    by_cases h : k = a
    · subst h
      rw [if_pos rfl, atKey_put_same (dat_map L) (by exact trivial)]
    · rw [if_neg h, atKey_put_other (by intro e; injection e with _ e; exact h e)]
      exact dat_at k L
/-- The value is a map of these rows, or none at all. -/
def Tab (w : World) (m : Value) (L : Rws) : Prop :=
  (m = .map none ∧ L = []) ∨ ∃ b, m = .map (some b) ∧ w.ownsMap Tryz.prog 25 (plainElem (H := Unit) Tryz.prog 3) b L.length (dat L)
theorem Tab.grown {w w' : World} {m : Value} {L : Rws} (h : Tab w m L) (hg : w.grownBy w' none) : Tab w' m L := by
  rcases h with h | ⟨b, h1, h2⟩
  · exact Or.inl h
  · exact Or.inr ⟨b, h1, h2.kept hg (by simp)⟩
theorem wf32 {k : Int} (h : 0 ≤ k ∧ k ≤ 4294967295) : (Lit.int .u32 k).wf = true := WalkArith.wf_u32 h
theorem wf64 {k : Int} (h : 0 ≤ k ∧ k ≤ 4294967295) : (Lit.int .i64 k).wf = true := WalkArith.wf_i64 (by omega)
set_option maxRecDepth 100000 in
theorem Tab.look {w : World} {m : Value} {L : Rws} (h : Tab w m L) (k : Int) (hk : 0 ≤ k ∧ k ≤ 4294967295) :
    (Instr.lookup 83 m (.int .u32 k) false).run Tryz.prog w = .ok (.int .i64 (D.look L k)) w := by
  rcases h with ⟨rfl, rfl⟩ | ⟨b, rfl, ho⟩
  · exact Maps.look_nil false keyed32 Tryz.underlying83 (zero64 w) (keyOf_int_mk Tryz.underlying25 (wf32 hk))
  · obtain ⟨c, hr, ha, _⟩ := ho.lookup_int keyed32 Tryz.underlying83 Tryz.underlying3 (zero64 w) (keyOf_int_mk Tryz.underlying25 (wf32 hk))
    rw [dat_at] at ha
    injection ha with ha
    injection ha with _ ha
    rw [hr, ha]
theorem upd {w : World} {b n : Nat} {D : DataW Unit} (h : w.ownsMap Tryz.prog 25 (plainElem (H := Unit) Tryz.prog 3) b n D) (hn : n < maxLen) (k v : Int) (hk : 0 ≤ k ∧ k ≤ 4294967295) (hv : 0 ≤ v ∧ v ≤ 4294967295) :
    ∃ w', (Instr.mapUpdate 83 (.map (some b)) (.int .u32 k) (.int .i64 v)).run Tryz.prog w = .ok () w' ∧ w'.ownsMap Tryz.prog 25 (plainElem (H := Unit) Tryz.prog 3) b (n + 1) (D.put (.int .u32 k) (.lit (.int .i64 v))) ∧ w.grownBy w' (some b) :=
  h.update keyed32 Tryz.underlying83 hn (keyOf_int_mk Tryz.underlying25 (wf32 hk)) (plainElem_int Tryz.underlying3 (wf64 hv))
/-- A call that hands back a map of these rows. -/
def Gives (w : World) (L : Rws) (e : Ending) (w' : World) : Prop := ∃ m, e = .returned m ∧ Tab w' m L ∧ w.grownBy w' none
theorem gives {w w' : World} {L : Rws} (ho : w'.ownsMap Tryz.prog 25 (plainElem (H := Unit) Tryz.prog 3) w.heap.size L.length (dat L)) (hg : w.grownBy w' (some w.heap.size)) :
    Gives w L (.returned (.map (some w.heap.size))) w' := ⟨_, rfl, Or.inr ⟨_, rfl, ho⟩, gr_row hg (Nat.le_refl _)⟩

theorem indirect_c (w : World) : Calls Tryz.prog 79 #[] w (Gives w tIndirect) := by
  have hmm := @run_makeMap Tryz.prog
  have o0 := World.ownsMap_made w Tryz.prog 25 (plainElem (H := Unit) Tryz.prog 3)
  obtain ⟨w1, r1, o1, g1⟩ := upd o0 (by decide) 0 4 (by decide) (by decide)
  go_enter Tryz.func79, Tryz.ntmps79
  go_wp2
  go_ret
  exact gives (L := tIndirect) o1 (gr_trans (gr_alloc (gr_refl w _) _) g1)
theorem branches_c (w : World) : Calls Tryz.prog 81 #[] w (Gives w tBranches) := by
  have hmm := @run_makeMap Tryz.prog
  have o0 := World.ownsMap_made w Tryz.prog 25 (plainElem (H := Unit) Tryz.prog 3)
  obtain ⟨w1, r1, o1, g1⟩ := upd o0 (by decide) 0 5 (by decide) (by decide)
  obtain ⟨w2, r2, o2, g2⟩ := upd o1 (by decide) 1 6 (by decide) (by decide)
  obtain ⟨w3, r3, o3, g3⟩ := upd o2 (by decide) 4 7 (by decide) (by decide)
  obtain ⟨w4, r4, o4, g4⟩ := upd o3 (by decide) 5 8 (by decide) (by decide)
  obtain ⟨w5, r5, o5, g5⟩ := upd o4 (by decide) 6 9 (by decide) (by decide)
  obtain ⟨w6, r6, o6, g6⟩ := upd o5 (by decide) 7 10 (by decide) (by decide)
  go_enter Tryz.func81, Tryz.ntmps81
  go_wp2
  go_ret
  exact gives (L := tBranches) o6 (gr_trans (gr_trans (gr_trans (gr_trans (gr_trans (gr_trans (gr_alloc (gr_refl w _) _) g1) g2) g3) g4) g5) g6)
theorem loads_c (w : World) : Calls Tryz.prog 83 #[] w (Gives w tLoads) := by
  have hmm := @run_makeMap Tryz.prog
  have o0 := World.ownsMap_made w Tryz.prog 25 (plainElem (H := Unit) Tryz.prog 3)
  obtain ⟨w1, r1, o1, g1⟩ := upd o0 (by decide) 0 11 (by decide) (by decide)
  obtain ⟨w2, r2, o2, g2⟩ := upd o1 (by decide) 1 12 (by decide) (by decide)
  obtain ⟨w3, r3, o3, g3⟩ := upd o2 (by decide) 2 13 (by decide) (by decide)
  obtain ⟨w4, r4, o4, g4⟩ := upd o3 (by decide) 3 14 (by decide) (by decide)
  obtain ⟨w5, r5, o5, g5⟩ := upd o4 (by decide) 4 15 (by decide) (by decide)
  obtain ⟨w6, r6, o6, g6⟩ := upd o5 (by decide) 5 16 (by decide) (by decide)
  obtain ⟨w7, r7, o7, g7⟩ := upd o6 (by decide) 6 17 (by decide) (by decide)
  go_enter Tryz.func83, Tryz.ntmps83
  go_wp2
  go_ret
  exact gives (L := tLoads) o7 (gr_trans (gr_trans (gr_trans (gr_trans (gr_trans (gr_trans (gr_trans (gr_alloc (gr_refl w _) _) g1) g2) g3) g4) g5) g6) g7)
theorem stores_c (w : World) : Calls Tryz.prog 84 #[] w (Gives w tStores) := by
  have hmm := @run_makeMap Tryz.prog
  have o0 := World.ownsMap_made w Tryz.prog 25 (plainElem (H := Unit) Tryz.prog 3)
  obtain ⟨w1, r1, o1, g1⟩ := upd o0 (by decide) 0 18 (by decide) (by decide)
  obtain ⟨w2, r2, o2, g2⟩ := upd o1 (by decide) 1 19 (by decide) (by decide)
  obtain ⟨w3, r3, o3, g3⟩ := upd o2 (by decide) 2 20 (by decide) (by decide)
  obtain ⟨w4, r4, o4, g4⟩ := upd o3 (by decide) 3 21 (by decide) (by decide)
  go_enter Tryz.func84, Tryz.ntmps84
  go_wp2
  go_ret
  exact gives (L := tStores) o4 (gr_trans (gr_trans (gr_trans (gr_trans (gr_alloc (gr_refl w _) _) g1) g2) g3) g4)
theorem plain_c (w : World) : Calls Tryz.prog 110 #[] w (Gives w tPlain) := by
  have hmm := @run_makeMap Tryz.prog
  have o0 := World.ownsMap_made w Tryz.prog 25 (plainElem (H := Unit) Tryz.prog 3)
  obtain ⟨w1, r1, o1, g1⟩ := upd o0 (by decide) 0 22 (by decide) (by decide)
  obtain ⟨w2, r2, o2, g2⟩ := upd o1 (by decide) 2 23 (by decide) (by decide)
  obtain ⟨w3, r3, o3, g3⟩ := upd o2 (by decide) 3 24 (by decide) (by decide)
  obtain ⟨w4, r4, o4, g4⟩ := upd o3 (by decide) 4 25 (by decide) (by decide)
  obtain ⟨w5, r5, o5, g5⟩ := upd o4 (by decide) 6 26 (by decide) (by decide)
  obtain ⟨w6, r6, o6, g6⟩ := upd o5 (by decide) 7 27 (by decide) (by decide)
  go_enter Tryz.func110, Tryz.ntmps110
  go_wp2
  go_ret
  exact gives (L := tPlain) o6 (gr_trans (gr_trans (gr_trans (gr_trans (gr_trans (gr_trans (gr_alloc (gr_refl w _) _) g1) g2) g3) g4) g5) g6)
theorem fences_c (w : World) : Calls Tryz.prog 90 #[] w (Gives w tFences) := by
  have hmm := @run_makeMap Tryz.prog
  have o0 := World.ownsMap_made w Tryz.prog 25 (plainElem (H := Unit) Tryz.prog 3)
  obtain ⟨w1, r1, o1, g1⟩ := upd o0 (by decide) 0 63 (by decide) (by decide)
  obtain ⟨w2, r2, o2, g2⟩ := upd o1 (by decide) 1 64 (by decide) (by decide)
  go_enter Tryz.func90, Tryz.ntmps90
  go_wp2
  go_ret
  exact gives (L := tFences) o2 (gr_trans (gr_trans (gr_alloc (gr_refl w _) _) g1) g2)
theorem wholes_c (w : World) : Calls Tryz.prog 114 #[] w (Gives w tWholes) := by
  have hmm := @run_makeMap Tryz.prog
  have o0 := World.ownsMap_made w Tryz.prog 25 (plainElem (H := Unit) Tryz.prog 3)
  obtain ⟨w1, r1, o1, g1⟩ := upd o0 (by decide) 115 65 (by decide) (by decide)
  obtain ⟨w2, r2, o2, g2⟩ := upd o1 (by decide) 1048691 66 (by decide) (by decide)
  obtain ⟨w3, r3, o3, g3⟩ := upd o2 (by decide) 270532723 67 (by decide) (by decide)
  obtain ⟨w4, r4, o4, g4⟩ := upd o3 (by decide) 273678451 68 (by decide) (by decide)
  go_enter Tryz.func114, Tryz.ntmps114
  go_wp2
  go_ret
  exact gives (L := tWholes) o4 (gr_trans (gr_trans (gr_trans (gr_trans (gr_alloc (gr_refl w _) _) g1) g2) g3) g4)
theorem csrs_c (w : World) : Calls Tryz.prog 112 #[] w (Gives w tCsrs) := by
  have hmm := @run_makeMap Tryz.prog
  have o0 := World.ownsMap_made w Tryz.prog 25 (plainElem (H := Unit) Tryz.prog 3)
  obtain ⟨w1, r1, o1, g1⟩ := upd o0 (by decide) 1 70 (by decide) (by decide)
  obtain ⟨w2, r2, o2, g2⟩ := upd o1 (by decide) 2 71 (by decide) (by decide)
  obtain ⟨w3, r3, o3, g3⟩ := upd o2 (by decide) 3 72 (by decide) (by decide)
  obtain ⟨w4, r4, o4, g4⟩ := upd o3 (by decide) 5 73 (by decide) (by decide)
  obtain ⟨w5, r5, o5, g5⟩ := upd o4 (by decide) 6 74 (by decide) (by decide)
  obtain ⟨w6, r6, o6, g6⟩ := upd o5 (by decide) 7 75 (by decide) (by decide)
  go_enter Tryz.func112, Tryz.ntmps112
  go_wp2
  go_ret
  exact gives (L := tCsrs) o6 (gr_trans (gr_trans (gr_trans (gr_trans (gr_trans (gr_trans (gr_alloc (gr_refl w _) _) g1) g2) g3) g4) g5) g6)
theorem atomics_c (w : World) : Calls Tryz.prog 115 #[] w (Gives w tAtomics) := by
  have hmm := @run_makeMap Tryz.prog
  have o0 := World.ownsMap_made w Tryz.prog 25 (plainElem (H := Unit) Tryz.prog 3)
  obtain ⟨w1, r1, o1, g1⟩ := upd o0 (by decide) 2 76 (by decide) (by decide)
  obtain ⟨w2, r2, o2, g2⟩ := upd o1 (by decide) 3 77 (by decide) (by decide)
  obtain ⟨w3, r3, o3, g3⟩ := upd o2 (by decide) 1 78 (by decide) (by decide)
  obtain ⟨w4, r4, o4, g4⟩ := upd o3 (by decide) 0 79 (by decide) (by decide)
  obtain ⟨w5, r5, o5, g5⟩ := upd o4 (by decide) 4 80 (by decide) (by decide)
  obtain ⟨w6, r6, o6, g6⟩ := upd o5 (by decide) 12 81 (by decide) (by decide)
  obtain ⟨w7, r7, o7, g7⟩ := upd o6 (by decide) 8 82 (by decide) (by decide)
  obtain ⟨w8, r8, o8, g8⟩ := upd o7 (by decide) 16 83 (by decide) (by decide)
  obtain ⟨w9, r9, o9, g9⟩ := upd o8 (by decide) 20 84 (by decide) (by decide)
  obtain ⟨w10, r10, o10, g10⟩ := upd o9 (by decide) 24 85 (by decide) (by decide)
  obtain ⟨w11, r11, o11, g11⟩ := upd o10 (by decide) 28 86 (by decide) (by decide)
  go_enter Tryz.func115, Tryz.ntmps115
  go_wp2
  go_ret
  exact gives (L := tAtomics) o11 (gr_trans (gr_trans (gr_trans (gr_trans (gr_trans (gr_trans (gr_trans (gr_trans (gr_trans (gr_trans (gr_trans (gr_alloc (gr_refl w _) _) g1) g2) g3) g4) g5) g6) g7) g8) g9) g10) g11)
theorem shifts_c (k : Int) (hk : 0 ≤ k ∧ k ≤ 4294967295) (w : World) : Calls Tryz.prog 108 #[.int .u32 k] w (Gives w (tShifts k)) := by
  have hmm := @run_makeMap Tryz.prog
  by_cases h0 : k = 0
  · subst h0
    have o0 := World.ownsMap_made w Tryz.prog 25 (plainElem (H := Unit) Tryz.prog 3)
    obtain ⟨w1, r1, o1, g1⟩ := upd o0 (by decide) 1 28 (by decide) (by decide)
    obtain ⟨w2, r2, o2, g2⟩ := upd o1 (by decide) 5 29 (by decide) (by decide)
    go_enter Tryz.func108, Tryz.ntmps108
    go_wp2
    go_ret
    exact gives (L := tShifts 0) o2 (gr_trans (gr_trans (gr_alloc (gr_refl w _) _) g1) g2)
  by_cases h16 : k = 16
  · subst h16
    have o0 := World.ownsMap_made w Tryz.prog 25 (plainElem (H := Unit) Tryz.prog 3)
    obtain ⟨w1, r1, o1, g1⟩ := upd o0 (by decide) 5 30 (by decide) (by decide)
    go_enter Tryz.func108, Tryz.ntmps108
    go_wp2
    go_ret
    exact gives (L := tShifts 16) o1 (gr_trans (gr_alloc (gr_refl w _) _) g1)
  go_enter Tryz.func108, Tryz.ntmps108
  go_wp2
  go_ret
  exact ⟨_, rfl, Or.inl ⟨rfl, by simp only [tShifts]; rw [if_neg h0]; rw [if_neg h16]⟩, gr_refl _ _⟩
theorem shifts32_c (k : Int) (hk : 0 ≤ k ∧ k ≤ 4294967295) (w : World) : Calls Tryz.prog 111 #[.int .u32 k] w (Gives w (tShifts32 k)) := by
  have hmm := @run_makeMap Tryz.prog
  by_cases h0 : k = 0
  · subst h0
    have o0 := World.ownsMap_made w Tryz.prog 25 (plainElem (H := Unit) Tryz.prog 3)
    obtain ⟨w1, r1, o1, g1⟩ := upd o0 (by decide) 1 42 (by decide) (by decide)
    obtain ⟨w2, r2, o2, g2⟩ := upd o1 (by decide) 5 43 (by decide) (by decide)
    go_enter Tryz.func111, Tryz.ntmps111
    go_wp2
    go_ret
    exact gives (L := tShifts32 0) o2 (gr_trans (gr_trans (gr_alloc (gr_refl w _) _) g1) g2)
  by_cases h32 : k = 32
  · subst h32
    have o0 := World.ownsMap_made w Tryz.prog 25 (plainElem (H := Unit) Tryz.prog 3)
    obtain ⟨w1, r1, o1, g1⟩ := upd o0 (by decide) 5 44 (by decide) (by decide)
    go_enter Tryz.func111, Tryz.ntmps111
    go_wp2
    go_ret
    exact gives (L := tShifts32 32) o1 (gr_trans (gr_alloc (gr_refl w _) _) g1)
  go_enter Tryz.func111, Tryz.ntmps111
  go_wp2
  go_ret
  exact ⟨_, rfl, Or.inl ⟨rfl, by simp only [tShifts32]; rw [if_neg h0]; rw [if_neg h32]⟩, gr_refl _ _⟩
theorem registers_c (k : Int) (hk : 0 ≤ k ∧ k ≤ 4294967295) (w : World) : Calls Tryz.prog 87 #[.int .u32 k] w (Gives w (tRegs k)) := by
  have hmm := @run_makeMap Tryz.prog
  by_cases h0 : k = 0
  · subst h0
    have o0 := World.ownsMap_made w Tryz.prog 25 (plainElem (H := Unit) Tryz.prog 3)
    obtain ⟨w1, r1, o1, g1⟩ := upd o0 (by decide) 0 31 (by decide) (by decide)
    obtain ⟨w2, r2, o2, g2⟩ := upd o1 (by decide) 1 33 (by decide) (by decide)
    obtain ⟨w3, r3, o3, g3⟩ := upd o2 (by decide) 2 34 (by decide) (by decide)
    obtain ⟨w4, r4, o4, g4⟩ := upd o3 (by decide) 3 35 (by decide) (by decide)
    obtain ⟨w5, r5, o5, g5⟩ := upd o4 (by decide) 4 36 (by decide) (by decide)
    obtain ⟨w6, r6, o6, g6⟩ := upd o5 (by decide) 5 37 (by decide) (by decide)
    obtain ⟨w7, r7, o7, g7⟩ := upd o6 (by decide) 6 39 (by decide) (by decide)
    obtain ⟨w8, r8, o8, g8⟩ := upd o7 (by decide) 7 40 (by decide) (by decide)
    go_enter Tryz.func87, Tryz.ntmps87
    go_wp2
    go_ret
    exact gives (L := tRegs 0) o8 (gr_trans (gr_trans (gr_trans (gr_trans (gr_trans (gr_trans (gr_trans (gr_trans (gr_alloc (gr_refl w _) _) g1) g2) g3) g4) g5) g6) g7) g8)
  by_cases h32 : k = 32
  · subst h32
    have o0 := World.ownsMap_made w Tryz.prog 25 (plainElem (H := Unit) Tryz.prog 3)
    obtain ⟨w1, r1, o1, g1⟩ := upd o0 (by decide) 0 32 (by decide) (by decide)
    obtain ⟨w2, r2, o2, g2⟩ := upd o1 (by decide) 5 38 (by decide) (by decide)
    go_enter Tryz.func87, Tryz.ntmps87
    go_wp2
    go_ret
    exact gives (L := tRegs 32) o2 (gr_trans (gr_trans (gr_alloc (gr_refl w _) _) g1) g2)
  by_cases h1 : k = 1
  · subst h1
    have o0 := World.ownsMap_made w Tryz.prog 25 (plainElem (H := Unit) Tryz.prog 3)
    obtain ⟨w1, r1, o1, g1⟩ := upd o0 (by decide) 0 50 (by decide) (by decide)
    obtain ⟨w2, r2, o2, g2⟩ := upd o1 (by decide) 1 51 (by decide) (by decide)
    obtain ⟨w3, r3, o3, g3⟩ := upd o2 (by decide) 2 52 (by decide) (by decide)
    obtain ⟨w4, r4, o4, g4⟩ := upd o3 (by decide) 3 53 (by decide) (by decide)
    obtain ⟨w5, r5, o5, g5⟩ := upd o4 (by decide) 4 54 (by decide) (by decide)
    obtain ⟨w6, r6, o6, g6⟩ := upd o5 (by decide) 5 55 (by decide) (by decide)
    obtain ⟨w7, r7, o7, g7⟩ := upd o6 (by decide) 6 56 (by decide) (by decide)
    obtain ⟨w8, r8, o8, g8⟩ := upd o7 (by decide) 7 57 (by decide) (by decide)
    go_enter Tryz.func87, Tryz.ntmps87
    go_wp2
    go_ret
    exact gives (L := tRegs 1) o8 (gr_trans (gr_trans (gr_trans (gr_trans (gr_trans (gr_trans (gr_trans (gr_trans (gr_alloc (gr_refl w _) _) g1) g2) g3) g4) g5) g6) g7) g8)
  go_enter Tryz.func87, Tryz.ntmps87
  go_wp2
  go_ret
  exact ⟨_, rfl, Or.inl ⟨rfl, by simp only [tRegs]; rw [if_neg h0]; rw [if_neg h32]; rw [if_neg h1]⟩, gr_refl _ _⟩
theorem registers32_c (k : Int) (hk : 0 ≤ k ∧ k ≤ 4294967295) (w : World) : Calls Tryz.prog 89 #[.int .u32 k] w (Gives w (tRegs32 k)) := by
  have hmm := @run_makeMap Tryz.prog
  by_cases h0 : k = 0
  · subst h0
    have o0 := World.ownsMap_made w Tryz.prog 25 (plainElem (H := Unit) Tryz.prog 3)
    obtain ⟨w1, r1, o1, g1⟩ := upd o0 (by decide) 0 45 (by decide) (by decide)
    obtain ⟨w2, r2, o2, g2⟩ := upd o1 (by decide) 1 47 (by decide) (by decide)
    obtain ⟨w3, r3, o3, g3⟩ := upd o2 (by decide) 5 48 (by decide) (by decide)
    go_enter Tryz.func89, Tryz.ntmps89
    go_wp2
    go_ret
    exact gives (L := tRegs32 0) o3 (gr_trans (gr_trans (gr_trans (gr_alloc (gr_refl w _) _) g1) g2) g3)
  by_cases h32 : k = 32
  · subst h32
    have o0 := World.ownsMap_made w Tryz.prog 25 (plainElem (H := Unit) Tryz.prog 3)
    obtain ⟨w1, r1, o1, g1⟩ := upd o0 (by decide) 0 46 (by decide) (by decide)
    obtain ⟨w2, r2, o2, g2⟩ := upd o1 (by decide) 5 49 (by decide) (by decide)
    go_enter Tryz.func89, Tryz.ntmps89
    go_wp2
    go_ret
    exact gives (L := tRegs32 32) o2 (gr_trans (gr_trans (gr_alloc (gr_refl w _) _) g1) g2)
  by_cases h1 : k = 1
  · subst h1
    have o0 := World.ownsMap_made w Tryz.prog 25 (plainElem (H := Unit) Tryz.prog 3)
    obtain ⟨w1, r1, o1, g1⟩ := upd o0 (by decide) 0 58 (by decide) (by decide)
    obtain ⟨w2, r2, o2, g2⟩ := upd o1 (by decide) 4 59 (by decide) (by decide)
    obtain ⟨w3, r3, o3, g3⟩ := upd o2 (by decide) 5 60 (by decide) (by decide)
    obtain ⟨w4, r4, o4, g4⟩ := upd o3 (by decide) 6 61 (by decide) (by decide)
    obtain ⟨w5, r5, o5, g5⟩ := upd o4 (by decide) 7 62 (by decide) (by decide)
    go_enter Tryz.func89, Tryz.ntmps89
    go_wp2
    go_ret
    exact gives (L := tRegs32 1) o5 (gr_trans (gr_trans (gr_trans (gr_trans (gr_trans (gr_alloc (gr_refl w _) _) g1) g2) g3) g4) g5)
  go_enter Tryz.func89, Tryz.ntmps89
  go_wp2
  go_ret
  exact ⟨_, rfl, Or.inl ⟨rfl, by simp only [tRegs32]; rw [if_neg h0]; rw [if_neg h32]; rw [if_neg h1]⟩, gr_refl _ _⟩
end Go.Proofs.YtpbeamnogfjagaaGreatDoor
