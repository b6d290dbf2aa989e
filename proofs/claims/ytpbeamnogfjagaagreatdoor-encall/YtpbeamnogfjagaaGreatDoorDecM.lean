/-
  What a word means to package decode: contracts over the program's translation (the majors with tables of their own).
  Conditions: the arguments are numbers of their kinds.
-/
import Derived.Test.YtpbeamnogfjagaaGreatDoorDecG
namespace Go.Proofs.YtpbeamnogfjagaaGreatDoor
open Go Go.RowKit F W M D
set_option linter.unusedVariables false

/-- A call that hands back an op, and the form of the rest. -/
def Means (w : World) (x : Nat) (p : Int × Parts) (e : Ending) (w' : World) : Prop :=
  ∃ v, e = .returned (.tuple #[.int .i64 p.1, v]) ∧ Fun w' v x (.agg (insn 0 (0, p.2))) ∧ w.grownBy w' none
theorem f3_in (x : Nat) : 0 ≤ f3 x ∧ f3 x ≤ 7 := by have := get_lt x 12 3; unfold f3; omega
theorem f7_in (x : Nat) : 0 ≤ f7 x ∧ f7 x ≤ 127 := by have := get_lt x 25 7; unfold f7; omega
theorem Get_n (x l m : Nat) (hx : x < 4294967296) (hl : l ≤ 31) (hm : 1 ≤ m ∧ m ≤ 32) (w : World) :
    Calls Tryz.prog 76 #[.int .u32 x, .int .i64 l, .int .i64 m] w fun e w' => e = .returned (.int .u32 (get x l m : Nat)) ∧ ∃ n, w' = w.drewN n := by
  have h := Get_c x l m hx (by omega) (by omega) w
  rwa [gotV_nat x l m hm.1] at h

set_option maxHeartbeats 2000000 in
theorem withN_c (x : Nat) (hx : x < 4294967296) (g : Int) (hg : 0 ≤ g ∧ g ≤ 7) (w : World) :
    Calls Tryz.prog 85 #[.int .u32 x, .int .u32 g] w (Means w x (withN x g)) := by
  by_cases h : g = 1 ∨ g = 5
  · have e1 : withN x g = (D.look (tShifts (get x 26 6 : Nat)) g, src x (get x 20 6 : Nat)) := by rw [withN, if_pos h]
    rw [e1]
    have hl := get_lt x 26 6
    clear e1
    rcases h with rfl | rfl
    · go_enter Tryz.func85, Tryz.ntmps85
      go_wp2_with fail
      go_region_with (first
        | (go_at_call 76; refine (Get_n x 26 6 hx (by omega) (by omega) _).mono ?_; rintro e w0 ⟨rfl, n0, rfl⟩)
        | (go_at_call 108; refine (shifts_c (get x 26 6 : Nat) (by omega) _).mono ?_; rintro e w1 ⟨m, rfl, hT, hG⟩; have hL := hT.look 1 (by omega))
        | (go_at_call 109; refine (bits_f 20 6 (by omega) (by omega) x hx _).mono ?_; rintro e w2 ⟨v, rfl, hI, hG2⟩; have hL2 := (hT.grown hG2).look 1 (by omega))
        | (go_at_call 80; refine (source_bits x hx _ _ _ hI).mono ?_; rintro e w3 ⟨u, rfl, hF, hG3⟩; have hL3 := ((hT.grown hG2).grown hG3).look 1 (by omega)))
      all_goals
        go_wp2_with fail
        go_ret2
        exact ⟨_, rfl, hF, gr_trans (gr_trans (gr_trans (gr_drewN (gr_refl _ _) _) hG) hG2) hG3⟩
    · go_enter Tryz.func85, Tryz.ntmps85
      go_wp2_with fail
      go_region_with (first
        | (go_at_call 76; refine (Get_n x 26 6 hx (by omega) (by omega) _).mono ?_; rintro e w0 ⟨rfl, n0, rfl⟩)
        | (go_at_call 108; refine (shifts_c (get x 26 6 : Nat) (by omega) _).mono ?_; rintro e w1 ⟨m, rfl, hT, hG⟩; have hL := hT.look 5 (by omega))
        | (go_at_call 109; refine (bits_f 20 6 (by omega) (by omega) x hx _).mono ?_; rintro e w2 ⟨v, rfl, hI, hG2⟩; have hL2 := (hT.grown hG2).look 5 (by omega))
        | (go_at_call 80; refine (source_bits x hx _ _ _ hI).mono ?_; rintro e w3 ⟨u, rfl, hF, hG3⟩; have hL3 := ((hT.grown hG2).grown hG3).look 5 (by omega)))
      all_goals
        go_wp2_with fail
        go_ret2
        exact ⟨_, rfl, hF, gr_trans (gr_trans (gr_trans (gr_drewN (gr_refl _ _) _) hG) hG2) hG3⟩
  · have e1 : withN x g = (D.look tPlain g, src x (immV x 1)) := by rw [withN, if_neg h]
    rw [e1]
    have h1 : (g == 1) = false := by simpa using fun e => h (Or.inl e)
    have h5 : (g == 5) = false := by simpa using fun e => h (Or.inr e)
    clear e1
    go_enter Tryz.func85, Tryz.ntmps85
    go_wp2_with fail
    go_region_with (first
      | (go_at_call 110; refine (plain_c _).mono ?_; rintro e w1 ⟨m, rfl, hT, hG⟩; have hL := hT.look g (by omega))
      | (go_at_call 78; refine (imm_f 1 (by omega) x hx _).mono ?_; rintro e w2 ⟨v, rfl, hI, hG2⟩; have hL2 := (hT.grown hG2).look g (by omega))
      | (go_at_call 80; refine (source_imm x hx _ _ _ hI).mono ?_; rintro e w3 ⟨u, rfl, hF, hG3⟩; have hL3 := ((hT.grown hG2).grown hG3).look g (by omega)))
    all_goals
      go_wp2_with fail
      go_ret2
      exact ⟨_, rfl, hF, gr_trans (gr_trans (gr_trans (gr_drew (gr_refl _ _)) hG) hG2) hG3⟩

set_option maxHeartbeats 2000000 in
theorem withN32_c (x : Nat) (hx : x < 4294967296) (g h : Int) (hg : 0 ≤ g ∧ g ≤ 7) (hh : 0 ≤ h ∧ h ≤ 127) (w : World) :
    Calls Tryz.prog 86 #[.int .u32 g, .int .u32 h] w (Means w x (withN32 x g h)) := by
  by_cases h0 : g = 0
  · subst h0
    rw [withN32, if_pos rfl]
    go_enter Tryz.func86, Tryz.ntmps86
    go_wp2_with fail
    refine (imm_f 1 (by omega) x hx _).mono ?_
    rintro e w1 ⟨v, rfl, hI, hG⟩
    go_wp2_with fail
    refine (source_imm x hx _ _ _ hI).mono ?_
    rintro e w2 ⟨u, rfl, hF, hG2⟩
    go_wp2_with fail
    go_ret2
    exact ⟨_, rfl, hF, gr_trans hG hG2⟩
  · rw [withN32, if_neg h0]
    have d0 : (g == 0) = false := by simpa using h0
    go_enter Tryz.func86, Tryz.ntmps86
    go_wp2_with fail
    go_region_with (first
      | (go_at_call 111; refine (shifts32_c h (by omega) _).mono ?_; rintro e w1 ⟨m, rfl, hT, hG⟩; have hL := hT.look g (by omega))
      | (go_at_call 109; refine (bits_f 20 5 (by omega) (by omega) x hx _).mono ?_; rintro e w2 ⟨v, rfl, hI, hG2⟩; have hL2 := (hT.grown hG2).look g (by omega))
      | (go_at_call 80; refine (source_bits x hx _ _ _ hI).mono ?_; rintro e w3 ⟨u, rfl, hF, hG3⟩; have hL3 := ((hT.grown hG2).grown hG3).look g (by omega)))
    all_goals
      go_wp2_with fail
      go_ret2
      exact ⟨_, rfl, hF, gr_trans (gr_trans (gr_trans (gr_drew (gr_refl _ _)) hG) hG2) hG3⟩

set_option maxHeartbeats 2000000 in
theorem system_c (x : Nat) (hx : x < 4294967296) (g h : Int) (hg : 0 ≤ g ∧ g ≤ 7) (hh : 0 ≤ h ∧ h ≤ 127) (w : World) :
    Calls Tryz.prog 92 #[.int .u32 x, .int .u32 g, .int .u32 h] w (Means w x (sysV x g h)) := by
  by_cases h0 : g = 0
  · subst h0
    rw [sysV, if_neg (by decide)]
    by_cases h9 : h = 9
    · subst h9
      by_cases hr : get x 7 5 = 0
      · rw [if_pos ⟨rfl, hr⟩]
        go_enter Tryz.func92, Tryz.ntmps92
        go_wp2_with fail
        refine (Rd_c x hx _).mono ?_
        rintro e w1 ⟨rfl, n, rfl⟩
        rw [hr]
        go_wp2_with fail
        refine (pair_none x hx _).mono ?_
        rintro e w2 ⟨u, rfl, hF, hG2⟩
        go_wp2_with fail
        go_ret2
        exact ⟨_, rfl, hF, gr_trans (gr_drewN (gr_refl _ _) _) hG2⟩
      · rw [if_neg (fun e => hr e.2)]
        have dr : (((get x 7 5 : Nat) : Int) == 0) = false := by simp; exact hr
        go_enter Tryz.func92, Tryz.ntmps92
        go_wp2_with fail
        refine (Rd_c x hx _).mono ?_
        rintro e w1 ⟨rfl, n, rfl⟩
        generalize ((get x 7 5 : Nat) : Int) = q at *
        go_wp2_with fail
        refine (wholes_c _).mono ?_
        rintro e w2 ⟨m, rfl, hT, hG2⟩
        have hL := hT.look x (by omega)
        go_wp2_with fail
        go_ret2
        exact ⟨_, rfl, bare_f x hx _, gr_trans (gr_drewN (gr_refl _ _) _) hG2⟩
    · rw [if_neg (fun e => h9 e.1)]
      have d9 : (h == 9) = false := by simpa using h9
      go_enter Tryz.func92, Tryz.ntmps92
      go_wp2_with fail
      refine (wholes_c _).mono ?_
      rintro e w2 ⟨m, rfl, hT, hG2⟩
      have hL := hT.look x (by omega)
      go_wp2_with fail
      go_ret2
      exact ⟨_, rfl, bare_f x hx _, hG2⟩
  · rw [sysV, if_pos h0]
    have d0 : (g == 0) = false := by simpa using h0
    go_enter Tryz.func92, Tryz.ntmps92
    go_wp2_with fail
    go_region_with (first
      | (go_at_call 112; refine (csrs_c _).mono ?_; rintro e w1 ⟨m, rfl, hT, hG⟩; have hL := hT.look g (by omega))
      | (go_at_call 109; refine (bits_f 20 12 (by omega) (by omega) x hx _).mono ?_; rintro e w2 ⟨v, rfl, hI, hG2⟩; have hL2 := (hT.grown hG2).look g (by omega))
      | (go_at_call 80; refine (source_bits x hx _ _ _ hI).mono ?_; rintro e w3 ⟨u, rfl, hF, hG3⟩; have hL3 := ((hT.grown hG2).grown hG3).look g (by omega)))
    all_goals
      go_wp2_with fail
      go_ret2
      exact ⟨_, rfl, hF, gr_trans (gr_trans (gr_trans (gr_drew (gr_refl _ _)) hG) hG2) hG3⟩
end Go.Proofs.YtpbeamnogfjagaaGreatDoor
