/-
  What a word means to package decode, and what Word answers: contracts over the program's translation.
  Conditions: the arguments are numbers of their kinds.
-/
import Derived.Test.YtpbeamnogfjagaaGreatDoorDecM
namespace Go.Proofs.YtpbeamnogfjagaaGreatDoor
open Go Go.RowKit F W M D
set_option linter.unusedVariables false
set_option maxRecDepth 100000

set_option maxHeartbeats 2000000 in
theorem atomic_c (x : Nat) (hx : x < 4294967296) (g : Int) (hg : 0 ≤ g ∧ g ≤ 7) (w : World) :
    Calls Tryz.prog 93 #[.int .u32 x, .int .u32 g] w (Means w x (atoV x g)) := by
  have hl := get_lt x 27 5
  have ho : 0 ≤ D.look tAtomics (get x 27 5 : Nat) ∧ D.look tAtomics (get x 27 5 : Nat) ≤ 86 := look_in (by decide) (by decide) _
  simp only [atoV]
  generalize hO : D.look tAtomics (get x 27 5 : Nat) = o at *
  have HO := Lib.hid hO
  clear hO
  by_cases h0 : o = 0
  · subst h0
    rw [if_pos (Or.inl rfl)]
    go_enter Tryz.func93, Tryz.ntmps93
    go_wp2_with fail
    refine (atomics_c _).mono ?_
    rintro e w1 ⟨m, rfl, hT, hG⟩
    go_wp2_with fail
    refine (Get_n x 27 5 hx (by omega) (by omega) _).mono ?_
    rintro e w2 ⟨rfl, n1, rfl⟩
    have hL := (hT.grown (gr_drewN (gr_refl _ none) n1)).look (get x 27 5 : Nat) (by omega)
    rw [HO.out] at hL
    go_wp2_with fail
    go_ret2
    exact ⟨_, rfl, bare_f x hx _, gr_drewN hG _⟩
  have d0 : (o == 0) = false := by simpa using h0
  by_cases hg' : g ≠ 2 ∧ g ≠ 3
  · rw [if_pos (Or.inr hg')]
    have d2 : (g != 2) = true := by simpa using hg'.1
    have d3 : (g != 3) = true := by simpa using hg'.2
    go_enter Tryz.func93, Tryz.ntmps93
    go_wp2_with fail
    refine (atomics_c _).mono ?_
    rintro e w1 ⟨m, rfl, hT, hG⟩
    go_wp2_with fail
    refine (Get_n x 27 5 hx (by omega) (by omega) _).mono ?_
    rintro e w2 ⟨rfl, n1, rfl⟩
    have hL := (hT.grown (gr_drewN (gr_refl _ none) n1)).look (get x 27 5 : Nat) (by omega)
    rw [HO.out] at hL
    go_wp2_with fail
    go_ret2
    exact ⟨_, rfl, bare_f x hx _, gr_drewN hG _⟩
  rw [if_neg (by omega)]
  by_cases h76 : o = 76
  · subst h76
    rw [if_pos rfl]
    by_cases hr : get x 20 5 = 0
    · rw [if_neg (by omega)]
      rcases (show g = 2 ∨ g = 3 by omega) with rfl | rfl
      all_goals
        go_enter Tryz.func93, Tryz.ntmps93
        go_wp2_with fail
        refine (atomics_c _).mono ?_
        rintro e w1 ⟨m, rfl, hT, hG⟩
        go_wp2_with fail
        refine (Get_n x 27 5 hx (by omega) (by omega) _).mono ?_
        rintro e w2 ⟨rfl, n1, rfl⟩
        have hL := (hT.grown (gr_drewN (gr_refl _ none) n1)).look (get x 27 5 : Nat) (by omega)
        rw [HO.out] at hL
        go_wp2_with fail
        refine (Rs2_c x hx _).mono ?_
        rintro e w3 ⟨rfl, n2, rfl⟩
        rw [hr]
        go_wp2_with fail
        refine (source_none x hx _).mono ?_
        rintro e w4 ⟨u, rfl, hF, hG2⟩
        go_wp2_with fail
        go_ret2
        exact ⟨_, rfl, hF, gr_trans (gr_drewN hG _) hG2⟩
    · rw [if_pos hr]
      have dr : (((get x 20 5 : Nat) : Int) == 0) = false := by simp; exact hr
      rcases (show g = 2 ∨ g = 3 by omega) with rfl | rfl
      all_goals
        go_enter Tryz.func93, Tryz.ntmps93
        go_wp2_with fail
        refine (atomics_c _).mono ?_
        rintro e w1 ⟨m, rfl, hT, hG⟩
        go_wp2_with fail
        refine (Get_n x 27 5 hx (by omega) (by omega) _).mono ?_
        rintro e w2 ⟨rfl, n1, rfl⟩
        have hL := (hT.grown (gr_drewN (gr_refl _ none) n1)).look (get x 27 5 : Nat) (by omega)
        rw [HO.out] at hL
        go_wp2_with fail
        refine (Rs2_c x hx _).mono ?_
        rintro e w3 ⟨rfl, n2, rfl⟩
        generalize ((get x 20 5 : Nat) : Int) = q at *
        go_wp2_with fail
        go_ret2
        exact ⟨_, rfl, bare_f x hx _, gr_drewN hG _⟩
  · rw [if_neg h76]
    have d76 : (o == 76) = false := by simpa using h76
    rcases (show g = 2 ∨ g = 3 by omega) with rfl | rfl
    all_goals
      go_enter Tryz.func93, Tryz.ntmps93
      go_wp2_with fail
      refine (atomics_c _).mono ?_
      rintro e w1 ⟨m, rfl, hT, hG⟩
      go_wp2_with fail
      refine (Get_n x 27 5 hx (by omega) (by omega) _).mono ?_
      rintro e w2 ⟨rfl, n1, rfl⟩
      have hL := (hT.grown (gr_drewN (gr_refl _ none) n1)).look (get x 27 5 : Nat) (by omega)
      rw [HO.out] at hL
      go_wp2_with fail
      go_ret2
      exact ⟨_, rfl, three_f x hx _, gr_drewN hG _⟩
set_option maxHeartbeats 2000000 in
theorem mean55_c (x : Nat) (hx : x < 4294967296) (h : get x 0 7 = 55) (w : World) : Calls Tryz.prog 38 #[.int .u32 x] w (Means w x (mean x)) := by
  rw [show mean x = (1, tgt x (immV x 4)) from by simp [mean, h]]
  have h3 := f3_in x
  have h7 := f7_in x
  go_enter Tryz.func38, Tryz.ntmps38
  go_wp2_with fail
  refine (Get_n x 12 3 hx (by omega) (by omega) _).mono ?_
  rintro e wa ⟨rfl, n1, rfl⟩
  rw [show ((get x 12 3 : Nat) : Int) = f3 x from rfl]
  generalize f3 x = g at *
  go_wp2_with fail
  refine (Get_n x 25 7 hx (by omega) (by omega) _).mono ?_
  rintro e wa ⟨rfl, n2, rfl⟩
  rw [show ((get x 25 7 : Nat) : Int) = f7 x from rfl]
  generalize f7 x = h' at *
  go_wp2_with fail
  refine (Get_n x 0 7 hx (by omega) (by omega) _).mono ?_
  rintro e wa ⟨rfl, n3, rfl⟩
  rw [h]
  clear h
  go_wp2_with fail
  refine (imm_f 4 (by omega) x hx _).mono ?_
  rintro e w1 ⟨v, rfl, hI, hG⟩
  go_wp2_with fail
  refine (target_imm x hx _ _ _ hI).mono ?_
  rintro e w2 ⟨u, rfl, hF, hG2⟩
  go_wp2_with fail
  go_ret2
  exact ⟨_, rfl, hF, gr_trans (gr_trans (gr_drewN (gr_refl _ _) _) hG) hG2⟩
set_option maxHeartbeats 2000000 in
theorem mean23_c (x : Nat) (hx : x < 4294967296) (h : get x 0 7 = 23) (w : World) : Calls Tryz.prog 38 #[.int .u32 x] w (Means w x (mean x)) := by
  rw [show mean x = (2, tgt x (immV x 4)) from by simp [mean, h]]
  have h3 := f3_in x
  have h7 := f7_in x
  go_enter Tryz.func38, Tryz.ntmps38
  go_wp2_with fail
  refine (Get_n x 12 3 hx (by omega) (by omega) _).mono ?_
  rintro e wa ⟨rfl, n1, rfl⟩
  rw [show ((get x 12 3 : Nat) : Int) = f3 x from rfl]
  generalize f3 x = g at *
  go_wp2_with fail
  refine (Get_n x 25 7 hx (by omega) (by omega) _).mono ?_
  rintro e wa ⟨rfl, n2, rfl⟩
  rw [show ((get x 25 7 : Nat) : Int) = f7 x from rfl]
  generalize f7 x = h' at *
  go_wp2_with fail
  refine (Get_n x 0 7 hx (by omega) (by omega) _).mono ?_
  rintro e wa ⟨rfl, n3, rfl⟩
  rw [h]
  clear h
  go_wp2_with fail
  refine (imm_f 4 (by omega) x hx _).mono ?_
  rintro e w1 ⟨v, rfl, hI, hG⟩
  go_wp2_with fail
  refine (target_imm x hx _ _ _ hI).mono ?_
  rintro e w2 ⟨u, rfl, hF, hG2⟩
  go_wp2_with fail
  go_ret2
  exact ⟨_, rfl, hF, gr_trans (gr_trans (gr_drewN (gr_refl _ _) _) hG) hG2⟩
set_option maxHeartbeats 2000000 in
theorem mean111_c (x : Nat) (hx : x < 4294967296) (h : get x 0 7 = 111) (w : World) : Calls Tryz.prog 38 #[.int .u32 x] w (Means w x (mean x)) := by
  rw [show mean x = (3, tgt x (immV x 5)) from by simp [mean, h]]
  have h3 := f3_in x
  have h7 := f7_in x
  go_enter Tryz.func38, Tryz.ntmps38
  go_wp2_with fail
  refine (Get_n x 12 3 hx (by omega) (by omega) _).mono ?_
  rintro e wa ⟨rfl, n1, rfl⟩
  rw [show ((get x 12 3 : Nat) : Int) = f3 x from rfl]
  generalize f3 x = g at *
  go_wp2_with fail
  refine (Get_n x 25 7 hx (by omega) (by omega) _).mono ?_
  rintro e wa ⟨rfl, n2, rfl⟩
  rw [show ((get x 25 7 : Nat) : Int) = f7 x from rfl]
  generalize f7 x = h' at *
  go_wp2_with fail
  refine (Get_n x 0 7 hx (by omega) (by omega) _).mono ?_
  rintro e wa ⟨rfl, n3, rfl⟩
  rw [h]
  clear h
  go_wp2_with fail
  refine (imm_f 5 (by omega) x hx _).mono ?_
  rintro e w1 ⟨v, rfl, hI, hG⟩
  go_wp2_with fail
  refine (target_imm x hx _ _ _ hI).mono ?_
  rintro e w2 ⟨u, rfl, hF, hG2⟩
  go_wp2_with fail
  go_ret2
  exact ⟨_, rfl, hF, gr_trans (gr_trans (gr_drewN (gr_refl _ _) _) hG) hG2⟩
set_option maxHeartbeats 2000000 in
theorem mean103_c (x : Nat) (hx : x < 4294967296) (h : get x 0 7 = 103) (w : World) : Calls Tryz.prog 38 #[.int .u32 x] w (Means w x (mean x)) := by
  rw [show mean x = (D.look tIndirect (f3 x), src x (immV x 1)) from by simp [mean, h]]
  have h3 := f3_in x
  have h7 := f7_in x
  go_enter Tryz.func38, Tryz.ntmps38
  go_wp2_with fail
  refine (Get_n x 12 3 hx (by omega) (by omega) _).mono ?_
  rintro e wa ⟨rfl, n1, rfl⟩
  rw [show ((get x 12 3 : Nat) : Int) = f3 x from rfl]
  generalize f3 x = g at *
  go_wp2_with fail
  refine (Get_n x 25 7 hx (by omega) (by omega) _).mono ?_
  rintro e wa ⟨rfl, n2, rfl⟩
  rw [show ((get x 25 7 : Nat) : Int) = f7 x from rfl]
  generalize f7 x = h' at *
  go_wp2_with fail
  refine (Get_n x 0 7 hx (by omega) (by omega) _).mono ?_
  rintro e wa ⟨rfl, n3, rfl⟩
  rw [h]
  clear h
  go_wp2_with fail
  go_region_with (first
    | (go_at_call 79; refine (indirect_c _).mono ?_; rintro e w1 ⟨m, rfl, hT, hG⟩; have hL := hT.look g (by omega))
    | (go_at_call 78; refine (imm_f 1 (by omega) x hx _).mono ?_; rintro e w2 ⟨v, rfl, hI, hG2⟩; have hL2 := (hT.grown hG2).look g (by omega))
    | (go_at_call 80; refine (source_imm x hx _ _ _ hI).mono ?_; rintro e w3 ⟨u, rfl, hF, hG3⟩; have hL3 := ((hT.grown hG2).grown hG3).look g (by omega)))
  all_goals
    go_wp2_with fail
    go_ret2
    exact ⟨_, rfl, hF, gr_trans (gr_trans (gr_trans (gr_drewN (gr_refl _ _) _) hG) hG2) hG3⟩
set_option maxHeartbeats 2000000 in
theorem mean99_c (x : Nat) (hx : x < 4294967296) (h : get x 0 7 = 99) (w : World) : Calls Tryz.prog 38 #[.int .u32 x] w (Means w x (mean x)) := by
  rw [show mean x = (D.look tBranches (f3 x), par x (immV x 3)) from by simp [mean, h]]
  have h3 := f3_in x
  have h7 := f7_in x
  go_enter Tryz.func38, Tryz.ntmps38
  go_wp2_with fail
  refine (Get_n x 12 3 hx (by omega) (by omega) _).mono ?_
  rintro e wa ⟨rfl, n1, rfl⟩
  rw [show ((get x 12 3 : Nat) : Int) = f3 x from rfl]
  generalize f3 x = g at *
  go_wp2_with fail
  refine (Get_n x 25 7 hx (by omega) (by omega) _).mono ?_
  rintro e wa ⟨rfl, n2, rfl⟩
  rw [show ((get x 25 7 : Nat) : Int) = f7 x from rfl]
  generalize f7 x = h' at *
  go_wp2_with fail
  refine (Get_n x 0 7 hx (by omega) (by omega) _).mono ?_
  rintro e wa ⟨rfl, n3, rfl⟩
  rw [h]
  clear h
  go_wp2_with fail
  go_region_with (first
    | (go_at_call 81; refine (branches_c _).mono ?_; rintro e w1 ⟨m, rfl, hT, hG⟩; have hL := hT.look g (by omega))
    | (go_at_call 78; refine (imm_f 3 (by omega) x hx _).mono ?_; rintro e w2 ⟨v, rfl, hI, hG2⟩; have hL2 := (hT.grown hG2).look g (by omega))
    | (go_at_call 82; refine (pair_imm x hx _ _ _ hI).mono ?_; rintro e w3 ⟨u, rfl, hF, hG3⟩; have hL3 := ((hT.grown hG2).grown hG3).look g (by omega)))
  all_goals
    go_wp2_with fail
    go_ret2
    exact ⟨_, rfl, hF, gr_trans (gr_trans (gr_trans (gr_drewN (gr_refl _ _) _) hG) hG2) hG3⟩
set_option maxHeartbeats 2000000 in
theorem mean3_c (x : Nat) (hx : x < 4294967296) (h : get x 0 7 = 3) (w : World) : Calls Tryz.prog 38 #[.int .u32 x] w (Means w x (mean x)) := by
  rw [show mean x = (D.look tLoads (f3 x), src x (immV x 1)) from by simp [mean, h]]
  have h3 := f3_in x
  have h7 := f7_in x
  go_enter Tryz.func38, Tryz.ntmps38
  go_wp2_with fail
  refine (Get_n x 12 3 hx (by omega) (by omega) _).mono ?_
  rintro e wa ⟨rfl, n1, rfl⟩
  rw [show ((get x 12 3 : Nat) : Int) = f3 x from rfl]
  generalize f3 x = g at *
  go_wp2_with fail
  refine (Get_n x 25 7 hx (by omega) (by omega) _).mono ?_
  rintro e wa ⟨rfl, n2, rfl⟩
  rw [show ((get x 25 7 : Nat) : Int) = f7 x from rfl]
  generalize f7 x = h' at *
  go_wp2_with fail
  refine (Get_n x 0 7 hx (by omega) (by omega) _).mono ?_
  rintro e wa ⟨rfl, n3, rfl⟩
  rw [h]
  clear h
  go_wp2_with fail
  go_region_with (first
    | (go_at_call 83; refine (loads_c _).mono ?_; rintro e w1 ⟨m, rfl, hT, hG⟩; have hL := hT.look g (by omega))
    | (go_at_call 78; refine (imm_f 1 (by omega) x hx _).mono ?_; rintro e w2 ⟨v, rfl, hI, hG2⟩; have hL2 := (hT.grown hG2).look g (by omega))
    | (go_at_call 80; refine (source_imm x hx _ _ _ hI).mono ?_; rintro e w3 ⟨u, rfl, hF, hG3⟩; have hL3 := ((hT.grown hG2).grown hG3).look g (by omega)))
  all_goals
    go_wp2_with fail
    go_ret2
    exact ⟨_, rfl, hF, gr_trans (gr_trans (gr_trans (gr_drewN (gr_refl _ _) _) hG) hG2) hG3⟩
set_option maxHeartbeats 2000000 in
theorem mean35_c (x : Nat) (hx : x < 4294967296) (h : get x 0 7 = 35) (w : World) : Calls Tryz.prog 38 #[.int .u32 x] w (Means w x (mean x)) := by
  rw [show mean x = (D.look tStores (f3 x), par x (immV x 2)) from by simp [mean, h]]
  have h3 := f3_in x
  have h7 := f7_in x
  go_enter Tryz.func38, Tryz.ntmps38
  go_wp2_with fail
  refine (Get_n x 12 3 hx (by omega) (by omega) _).mono ?_
  rintro e wa ⟨rfl, n1, rfl⟩
  rw [show ((get x 12 3 : Nat) : Int) = f3 x from rfl]
  generalize f3 x = g at *
  go_wp2_with fail
  refine (Get_n x 25 7 hx (by omega) (by omega) _).mono ?_
  rintro e wa ⟨rfl, n2, rfl⟩
  rw [show ((get x 25 7 : Nat) : Int) = f7 x from rfl]
  generalize f7 x = h' at *
  go_wp2_with fail
  refine (Get_n x 0 7 hx (by omega) (by omega) _).mono ?_
  rintro e wa ⟨rfl, n3, rfl⟩
  rw [h]
  clear h
  go_wp2_with fail
  go_region_with (first
    | (go_at_call 84; refine (stores_c _).mono ?_; rintro e w1 ⟨m, rfl, hT, hG⟩; have hL := hT.look g (by omega))
    | (go_at_call 78; refine (imm_f 2 (by omega) x hx _).mono ?_; rintro e w2 ⟨v, rfl, hI, hG2⟩; have hL2 := (hT.grown hG2).look g (by omega))
    | (go_at_call 82; refine (pair_imm x hx _ _ _ hI).mono ?_; rintro e w3 ⟨u, rfl, hF, hG3⟩; have hL3 := ((hT.grown hG2).grown hG3).look g (by omega)))
  all_goals
    go_wp2_with fail
    go_ret2
    exact ⟨_, rfl, hF, gr_trans (gr_trans (gr_trans (gr_drewN (gr_refl _ _) _) hG) hG2) hG3⟩
set_option maxHeartbeats 2000000 in
theorem mean19_c (x : Nat) (hx : x < 4294967296) (h : get x 0 7 = 19) (w : World) : Calls Tryz.prog 38 #[.int .u32 x] w (Means w x (mean x)) := by
  rw [show mean x = withN x (f3 x) from by simp [mean, h]]
  have h3 := f3_in x
  have h7 := f7_in x
  go_enter Tryz.func38, Tryz.ntmps38
  go_wp2_with fail
  refine (Get_n x 12 3 hx (by omega) (by omega) _).mono ?_
  rintro e wa ⟨rfl, n1, rfl⟩
  rw [show ((get x 12 3 : Nat) : Int) = f3 x from rfl]
  generalize f3 x = g at *
  go_wp2_with fail
  refine (Get_n x 25 7 hx (by omega) (by omega) _).mono ?_
  rintro e wa ⟨rfl, n2, rfl⟩
  rw [show ((get x 25 7 : Nat) : Int) = f7 x from rfl]
  generalize f7 x = h' at *
  go_wp2_with fail
  refine (Get_n x 0 7 hx (by omega) (by omega) _).mono ?_
  rintro e wa ⟨rfl, n3, rfl⟩
  rw [h]
  clear h
  go_wp2_with fail
  refine (withN_c x hx g h3 _).mono ?_
  rintro e w1 ⟨u, rfl, hF, hG⟩
  go_wp2_with fail
  go_ret2
  exact ⟨_, rfl, hF, gr_trans (gr_drewN (gr_refl _ _) _) hG⟩
set_option maxHeartbeats 2000000 in
theorem mean27_c (x : Nat) (hx : x < 4294967296) (h : get x 0 7 = 27) (w : World) : Calls Tryz.prog 38 #[.int .u32 x] w (Means w x (mean x)) := by
  rw [show mean x = withN32 x (f3 x) (f7 x) from by simp [mean, h]]
  have h3 := f3_in x
  have h7 := f7_in x
  go_enter Tryz.func38, Tryz.ntmps38
  go_wp2_with fail
  refine (Get_n x 12 3 hx (by omega) (by omega) _).mono ?_
  rintro e wa ⟨rfl, n1, rfl⟩
  rw [show ((get x 12 3 : Nat) : Int) = f3 x from rfl]
  generalize f3 x = g at *
  go_wp2_with fail
  refine (Get_n x 25 7 hx (by omega) (by omega) _).mono ?_
  rintro e wa ⟨rfl, n2, rfl⟩
  rw [show ((get x 25 7 : Nat) : Int) = f7 x from rfl]
  generalize f7 x = h' at *
  go_wp2_with fail
  refine (Get_n x 0 7 hx (by omega) (by omega) _).mono ?_
  rintro e wa ⟨rfl, n3, rfl⟩
  rw [h]
  clear h
  go_wp2_with fail
  refine (withN32_c x hx g h' h3 h7 _).mono ?_
  rintro e w1 ⟨u, rfl, hF, hG⟩
  go_wp2_with fail
  go_ret2
  exact ⟨_, rfl, hF, gr_trans (gr_drewN (gr_refl _ _) _) hG⟩
set_option maxHeartbeats 2000000 in
theorem mean51_c (x : Nat) (hx : x < 4294967296) (h : get x 0 7 = 51) (w : World) : Calls Tryz.prog 38 #[.int .u32 x] w (Means w x (mean x)) := by
  rw [show mean x = (D.look (tRegs (f7 x)) (f3 x), thr x) from by simp [mean, h]]
  have h3 := f3_in x
  have h7 := f7_in x
  go_enter Tryz.func38, Tryz.ntmps38
  go_wp2_with fail
  refine (Get_n x 12 3 hx (by omega) (by omega) _).mono ?_
  rintro e wa ⟨rfl, n1, rfl⟩
  rw [show ((get x 12 3 : Nat) : Int) = f3 x from rfl]
  generalize f3 x = g at *
  go_wp2_with fail
  refine (Get_n x 25 7 hx (by omega) (by omega) _).mono ?_
  rintro e wa ⟨rfl, n2, rfl⟩
  rw [show ((get x 25 7 : Nat) : Int) = f7 x from rfl]
  generalize f7 x = h' at *
  go_wp2_with fail
  refine (Get_n x 0 7 hx (by omega) (by omega) _).mono ?_
  rintro e wa ⟨rfl, n3, rfl⟩
  rw [h]
  clear h
  go_wp2_with fail
  refine (registers_c h' (by omega) _).mono ?_
  rintro e w1 ⟨m, rfl, hT, hG⟩
  have hL := hT.look g (by omega)
  go_wp2_with fail
  go_ret2
  exact ⟨_, rfl, three_f x hx _, gr_trans (gr_drewN (gr_refl _ _) _) hG⟩
set_option maxHeartbeats 2000000 in
theorem mean59_c (x : Nat) (hx : x < 4294967296) (h : get x 0 7 = 59) (w : World) : Calls Tryz.prog 38 #[.int .u32 x] w (Means w x (mean x)) := by
  rw [show mean x = (D.look (tRegs32 (f7 x)) (f3 x), thr x) from by simp [mean, h]]
  have h3 := f3_in x
  have h7 := f7_in x
  go_enter Tryz.func38, Tryz.ntmps38
  go_wp2_with fail
  refine (Get_n x 12 3 hx (by omega) (by omega) _).mono ?_
  rintro e wa ⟨rfl, n1, rfl⟩
  rw [show ((get x 12 3 : Nat) : Int) = f3 x from rfl]
  generalize f3 x = g at *
  go_wp2_with fail
  refine (Get_n x 25 7 hx (by omega) (by omega) _).mono ?_
  rintro e wa ⟨rfl, n2, rfl⟩
  rw [show ((get x 25 7 : Nat) : Int) = f7 x from rfl]
  generalize f7 x = h' at *
  go_wp2_with fail
  refine (Get_n x 0 7 hx (by omega) (by omega) _).mono ?_
  rintro e wa ⟨rfl, n3, rfl⟩
  rw [h]
  clear h
  go_wp2_with fail
  refine (registers32_c h' (by omega) _).mono ?_
  rintro e w1 ⟨m, rfl, hT, hG⟩
  have hL := hT.look g (by omega)
  go_wp2_with fail
  go_ret2
  exact ⟨_, rfl, three_f x hx _, gr_trans (gr_drewN (gr_refl _ _) _) hG⟩
set_option maxHeartbeats 2000000 in
theorem mean15_c (x : Nat) (hx : x < 4294967296) (h : get x 0 7 = 15) (w : World) : Calls Tryz.prog 38 #[.int .u32 x] w (Means w x (mean x)) := by
  rw [show mean x = (D.look tFences (f3 x), bar) from by simp [mean, h]]
  have h3 := f3_in x
  have h7 := f7_in x
  go_enter Tryz.func38, Tryz.ntmps38
  go_wp2_with fail
  refine (Get_n x 12 3 hx (by omega) (by omega) _).mono ?_
  rintro e wa ⟨rfl, n1, rfl⟩
  rw [show ((get x 12 3 : Nat) : Int) = f3 x from rfl]
  generalize f3 x = g at *
  go_wp2_with fail
  refine (Get_n x 25 7 hx (by omega) (by omega) _).mono ?_
  rintro e wa ⟨rfl, n2, rfl⟩
  rw [show ((get x 25 7 : Nat) : Int) = f7 x from rfl]
  generalize f7 x = h' at *
  go_wp2_with fail
  refine (Get_n x 0 7 hx (by omega) (by omega) _).mono ?_
  rintro e wa ⟨rfl, n3, rfl⟩
  rw [h]
  clear h
  go_wp2_with fail
  refine (fences_c _).mono ?_
  rintro e w1 ⟨m, rfl, hT, hG⟩
  have hL := hT.look g (by omega)
  go_wp2_with fail
  go_ret2
  exact ⟨_, rfl, bare_f x hx _, gr_trans (gr_drewN (gr_refl _ _) _) hG⟩
set_option maxHeartbeats 2000000 in
theorem mean115_c (x : Nat) (hx : x < 4294967296) (h : get x 0 7 = 115) (w : World) : Calls Tryz.prog 38 #[.int .u32 x] w (Means w x (mean x)) := by
  rw [show mean x = sysV x (f3 x) (f7 x) from by simp [mean, h]]
  have h3 := f3_in x
  have h7 := f7_in x
  go_enter Tryz.func38, Tryz.ntmps38
  go_wp2_with fail
  refine (Get_n x 12 3 hx (by omega) (by omega) _).mono ?_
  rintro e wa ⟨rfl, n1, rfl⟩
  rw [show ((get x 12 3 : Nat) : Int) = f3 x from rfl]
  generalize f3 x = g at *
  go_wp2_with fail
  refine (Get_n x 25 7 hx (by omega) (by omega) _).mono ?_
  rintro e wa ⟨rfl, n2, rfl⟩
  rw [show ((get x 25 7 : Nat) : Int) = f7 x from rfl]
  generalize f7 x = h' at *
  go_wp2_with fail
  refine (Get_n x 0 7 hx (by omega) (by omega) _).mono ?_
  rintro e wa ⟨rfl, n3, rfl⟩
  rw [h]
  clear h
  go_wp2_with fail
  refine (system_c x hx g h' h3 h7 _).mono ?_
  rintro e w1 ⟨u, rfl, hF, hG⟩
  go_wp2_with fail
  go_ret2
  exact ⟨_, rfl, hF, gr_trans (gr_drewN (gr_refl _ _) _) hG⟩
set_option maxHeartbeats 2000000 in
theorem mean47_c (x : Nat) (hx : x < 4294967296) (h : get x 0 7 = 47) (w : World) : Calls Tryz.prog 38 #[.int .u32 x] w (Means w x (mean x)) := by
  rw [show mean x = atoV x (f3 x) from by simp [mean, h]]
  have h3 := f3_in x
  have h7 := f7_in x
  go_enter Tryz.func38, Tryz.ntmps38
  go_wp2_with fail
  refine (Get_n x 12 3 hx (by omega) (by omega) _).mono ?_
  rintro e wa ⟨rfl, n1, rfl⟩
  rw [show ((get x 12 3 : Nat) : Int) = f3 x from rfl]
  generalize f3 x = g at *
  go_wp2_with fail
  refine (Get_n x 25 7 hx (by omega) (by omega) _).mono ?_
  rintro e wa ⟨rfl, n2, rfl⟩
  rw [show ((get x 25 7 : Nat) : Int) = f7 x from rfl]
  generalize f7 x = h' at *
  go_wp2_with fail
  refine (Get_n x 0 7 hx (by omega) (by omega) _).mono ?_
  rintro e wa ⟨rfl, n3, rfl⟩
  rw [h]
  clear h
  go_wp2_with fail
  refine (atomic_c x hx g h3 _).mono ?_
  rintro e w1 ⟨u, rfl, hF, hG⟩
  go_wp2_with fail
  go_ret2
  exact ⟨_, rfl, hF, gr_trans (gr_drewN (gr_refl _ _) _) hG⟩
set_option maxHeartbeats 2000000 in
theorem mean_none_c (x : Nat) (hx : x < 4294967296) (h : get x 0 7 ≠ 55 ∧ get x 0 7 ≠ 23 ∧ get x 0 7 ≠ 111 ∧ get x 0 7 ≠ 103 ∧ get x 0 7 ≠ 99 ∧ get x 0 7 ≠ 3 ∧ get x 0 7 ≠ 35 ∧ get x 0 7 ≠ 19 ∧ get x 0 7 ≠ 27 ∧ get x 0 7 ≠ 51 ∧ get x 0 7 ≠ 59 ∧ get x 0 7 ≠ 15 ∧ get x 0 7 ≠ 115 ∧ get x 0 7 ≠ 47) (w : World) : Calls Tryz.prog 38 #[.int .u32 x] w (Means w x (mean x)) := by
  rw [show mean x = (0, bar) from by simp [mean, h]]
  have d55 : (((get x 0 7 : Nat) : Int) == 55) = false := by have := h; simp; omega
  have d23 : (((get x 0 7 : Nat) : Int) == 23) = false := by have := h; simp; omega
  have d111 : (((get x 0 7 : Nat) : Int) == 111) = false := by have := h; simp; omega
  have d103 : (((get x 0 7 : Nat) : Int) == 103) = false := by have := h; simp; omega
  have d99 : (((get x 0 7 : Nat) : Int) == 99) = false := by have := h; simp; omega
  have d3 : (((get x 0 7 : Nat) : Int) == 3) = false := by have := h; simp; omega
  have d35 : (((get x 0 7 : Nat) : Int) == 35) = false := by have := h; simp; omega
  have d19 : (((get x 0 7 : Nat) : Int) == 19) = false := by have := h; simp; omega
  have d27 : (((get x 0 7 : Nat) : Int) == 27) = false := by have := h; simp; omega
  have d51 : (((get x 0 7 : Nat) : Int) == 51) = false := by have := h; simp; omega
  have d59 : (((get x 0 7 : Nat) : Int) == 59) = false := by have := h; simp; omega
  have d15 : (((get x 0 7 : Nat) : Int) == 15) = false := by have := h; simp; omega
  have d115 : (((get x 0 7 : Nat) : Int) == 115) = false := by have := h; simp; omega
  have d47 : (((get x 0 7 : Nat) : Int) == 47) = false := by have := h; simp; omega
  clear h
  have h3 := f3_in x
  have h7 := f7_in x
  go_enter Tryz.func38, Tryz.ntmps38
  go_wp2_with fail
  refine (Get_n x 12 3 hx (by omega) (by omega) _).mono ?_
  rintro e wa ⟨rfl, n1, rfl⟩
  rw [show ((get x 12 3 : Nat) : Int) = f3 x from rfl]
  generalize f3 x = g at *
  go_wp2_with fail
  refine (Get_n x 25 7 hx (by omega) (by omega) _).mono ?_
  rintro e wa ⟨rfl, n2, rfl⟩
  rw [show ((get x 25 7 : Nat) : Int) = f7 x from rfl]
  generalize f7 x = h' at *
  go_wp2_with fail
  refine (Get_n x 0 7 hx (by omega) (by omega) _).mono ?_
  rintro e wa ⟨rfl, n3, rfl⟩
  generalize ((get x 0 7 : Nat) : Int) = q at *
  go_wp2_with fail
  go_ret2
  exact ⟨_, rfl, bare_f x hx _, gr_drewN (gr_refl _ _) _⟩
theorem meaning_c (x : Nat) (hx : x < 4294967296) (w : World) : Calls Tryz.prog 38 #[.int .u32 x] w (Means w x (mean x)) := by
  by_cases h55 : get x 0 7 = 55
  · exact mean55_c x hx h55 w
  by_cases h23 : get x 0 7 = 23
  · exact mean23_c x hx h23 w
  by_cases h111 : get x 0 7 = 111
  · exact mean111_c x hx h111 w
  by_cases h103 : get x 0 7 = 103
  · exact mean103_c x hx h103 w
  by_cases h99 : get x 0 7 = 99
  · exact mean99_c x hx h99 w
  by_cases h3 : get x 0 7 = 3
  · exact mean3_c x hx h3 w
  by_cases h35 : get x 0 7 = 35
  · exact mean35_c x hx h35 w
  by_cases h19 : get x 0 7 = 19
  · exact mean19_c x hx h19 w
  by_cases h27 : get x 0 7 = 27
  · exact mean27_c x hx h27 w
  by_cases h51 : get x 0 7 = 51
  · exact mean51_c x hx h51 w
  by_cases h59 : get x 0 7 = 59
  · exact mean59_c x hx h59 w
  by_cases h15 : get x 0 7 = 15
  · exact mean15_c x hx h15 w
  by_cases h115 : get x 0 7 = 115
  · exact mean115_c x hx h115 w
  by_cases h47 : get x 0 7 = 47
  · exact mean47_c x hx h47 w
  exact mean_none_c x hx ⟨h55, h23, h111, h103, h99, h3, h35, h19, h27, h51, h59, h15, h115, h47⟩ w

set_option maxHeartbeats 2000000 in
theorem Word_c (x : Nat) (hx : x < 4294967296) (w : World) :
    Calls Tryz.prog 19 #[.int .u32 x] w fun e w' => e = .returned (.agg (insn 4 (D.wordV x))) ∧ w.grownBy w' none := by
  have HR := Lib.hid (Row.fresh w 23 six0)
  by_cases h0 : (mean x).1 = 0
  · rw [D.wordV, if_pos h0]
    go_enter Tryz.func19, Tryz.ntmps19
    go_wp2_with fail
    refine (meaning_c x hx _).mono ?_
    rintro e w1 ⟨v, rfl, hF, hG⟩
    rw [h0]
    have hR := Lib.hid (HR.out.grown hG (by simp)); have k0 := hR.out.cell 0; have k1 := hR.out.cell 1; have k2 := hR.out.cell 2; have k3 := hR.out.cell 3; have k4 := hR.out.cell 4; have k5 := hR.out.cell 5; have z := hR.out.free; simp only [six0, List.getElem?_cons_zero, List.getElem?_cons_succ] at k0 k1 k2 k3 k4 k5
    go_wp2_with fail
    exact six_ret rfl rfl rfl (six hR.out rfl _ _ _ _ _ _) ⟨rfl, six_gr (gr_trans (gr_alloc (gr_refl _ _) _) hG) (Nat.le_refl _) _ _ _ _ _ _⟩
  · rw [D.wordV, if_neg h0]
    have HM := Lib.hid (fun W => meaning_c x hx W)
    generalize mean x = p at *
    obtain ⟨o, rd, rs1, rs2, im⟩ := p
    simp only at h0
    have d0 : (o == 0) = false := by simpa using h0
    go_enter Tryz.func19, Tryz.ntmps19
    go_wp2_with fail
    refine (HM.out _).mono ?_
    rintro e w1 ⟨v, rfl, ⟨k, cap, rfl, hcf, hc⟩, hG⟩
    have HC := Lib.hid hc
    clear hc
    go_wp2_with fail
    refine (HC.out _ (gr_refl _ _)).mono ?_
    rintro e w2 ⟨rfl, hG2⟩
    have hR := Lib.hid (HR.out.grown (gr_trans hG hG2) (by simp)); have k0 := hR.out.cell 0; have k1 := hR.out.cell 1; have k2 := hR.out.cell 2; have k3 := hR.out.cell 3; have k4 := hR.out.cell 4; have k5 := hR.out.cell 5; have z := hR.out.free; simp only [six0, List.getElem?_cons_zero, List.getElem?_cons_succ] at k0 k1 k2 k3 k4 k5
    have hlt := hR.out.lt
    simp only [insn]
    go_wp2_with fail
    exact six_ret rfl rfl rfl ((six hR.out rfl _ _ _ _ _ _).alloc _) ⟨rfl, gr_alloc (six_gr (gr_trans (gr_trans (gr_alloc (gr_refl _ _) _) hG) hG2) (Nat.le_refl _) _ _ _ _ _ _) _⟩
/-- The same, field by field. -/
theorem Word_at {x : Nat} {o rd rs1 rs2 im : Int} (hx : x < 4294967296) (h : D.wordV x = (o, rd, rs1, rs2, im)) (w : World) :
    Calls Tryz.prog 19 #[.int .u32 x] w fun e w' => e = .returned (.agg #[.int .i64 o, .int .i64 rd, .int .i64 rs1, .int .i64 rs2, .int .i64 im, .int .i64 4]) ∧ w.grownBy w' none := by
  have := Word_c x hx w
  rw [h] at this
  exact this
/-- The op of an instruction that is no variable. -/
theorem fld0 (a b c d e f : Value) (w : World) : (Instr.field 23 (.agg #[a, b, c, d, e, f]) 0).run Tryz.prog w = .ok a w := by kernel_rfl
end Go.Proofs.YtpbeamnogfjagaaGreatDoor
