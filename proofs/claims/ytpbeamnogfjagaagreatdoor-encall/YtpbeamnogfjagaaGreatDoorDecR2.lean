/-
  What the document's own answers for layer 4 (package suzerainref04) are made of (second part): registers, the system's, atomic ones: contracts over the translation, each by the program's plain functions.
  Conditions: the arguments are numbers of their kinds.
-/
import Derived.Test.YtpbeamnogfjagaaGreatDoorDecR
namespace Go.Proofs.YtpbeamnogfjagaaGreatDoor
open Go Go.RowKit F W M D
set_option linter.unusedVariables false
set_option maxRecDepth 100000

theorem g8 (x : Nat) : get x 12 3 ≤ 7 := by have := get_lt x 12 3; omega
theorem pk {L : List Int} {T : Rws} (h : ∀ g : Nat, g < 8 → pickV L g = D.look T g) (x : Nat) : pickV L (get x 12 3) = D.look T (f3 x) := h _ (by have := g8 x; omega)
set_option maxHeartbeats 2000000 in
theorem rregs_c (x : Nat) (hx : x < 4294967296) (w : World) :
    Calls Tryz.prog 49 #[.int .u32 x, .bool true] w fun e w' => e = .returned (.int .i64 (D.look (tRegs (f7 x)) (f3 x))) ∧ w.grownBy w' none := by
  have h7 : get x 25 7 = 0 ∨ get x 25 7 = 32 ∨ get x 25 7 = 1 ∨ (get x 25 7 ≠ 0 ∧ get x 25 7 ≠ 32 ∧ get x 25 7 ≠ 1) := by omega
  have h8 := g8 x
  rcases h7 with h7 | h7 | h7 | h7
  · have HP := Lib.hid (pk (L := [31, 33, 34, 35, 36, 37, 39, 40]) (T := tRegs 0) (by decide) x)
    rw [show f7 x = 0 by rw [f7, h7]; rfl]
    go_enter Tryz.func49, Tryz.ntmps49
    go_wp2_with fail
    refine (rGet_n x 12 3 hx (by omega) (by omega) _).mono ?_
    rintro e w' ⟨rfl, rfl⟩
    generalize get x 12 3 = g at *
    go_wp2_with fail
    refine (rGet_n x 25 7 hx (by omega) (by omega) _).mono ?_
    rintro e w' ⟨rfl, rfl⟩
    rw [h7]
    go_wp2_with fail
    refine (rpick_c [31, 33, 34, 35, 36, 37, 39, 40] (by decide) _ g h8 _ (Row.fresh w 3 (iv [31, 33, 34, 35, 36, 37, 39, 40]))).mono ?_
    rintro e w' ⟨rfl, rfl⟩
    rw [HP.out]
    go_wp2_with fail
    go_ret
    exact ⟨rfl, gr_alloc (gr_refl _ _) _⟩
  · have HP := Lib.hid (pk (L := [32, -1, -1, -1, -1, 38]) (T := tRegs 32) (by decide) x)
    rw [show f7 x = 32 by rw [f7, h7]; rfl]
    go_enter Tryz.func49, Tryz.ntmps49
    go_wp2_with fail
    refine (rGet_n x 12 3 hx (by omega) (by omega) _).mono ?_
    rintro e w' ⟨rfl, rfl⟩
    generalize get x 12 3 = g at *
    go_wp2_with fail
    refine (rGet_n x 25 7 hx (by omega) (by omega) _).mono ?_
    rintro e w' ⟨rfl, rfl⟩
    rw [h7]
    go_wp2_with fail
    refine (rpick_c [32, -1, -1, -1, -1, 38] (by decide) _ g h8 _ (Row.fresh w 3 (iv [32, -1, -1, -1, -1, 38]))).mono ?_
    rintro e w' ⟨rfl, rfl⟩
    rw [HP.out]
    go_wp2_with fail
    go_ret
    exact ⟨rfl, gr_alloc (gr_refl _ _) _⟩
  · have HP := Lib.hid (pk (L := [50, 51, 52, 53, 54, 55, 56, 57]) (T := tRegs 1) (by decide) x)
    rw [show f7 x = 1 by rw [f7, h7]; rfl]
    go_enter Tryz.func49, Tryz.ntmps49
    go_wp2_with fail
    refine (rGet_n x 12 3 hx (by omega) (by omega) _).mono ?_
    rintro e w' ⟨rfl, rfl⟩
    generalize get x 12 3 = g at *
    go_wp2_with fail
    refine (rGet_n x 25 7 hx (by omega) (by omega) _).mono ?_
    rintro e w' ⟨rfl, rfl⟩
    rw [h7]
    go_wp2_with fail
    refine (rpick_c [50, 51, 52, 53, 54, 55, 56, 57] (by decide) _ g h8 _ (Row.fresh w 3 (iv [50, 51, 52, 53, 54, 55, 56, 57]))).mono ?_
    rintro e w' ⟨rfl, rfl⟩
    rw [HP.out]
    go_wp2_with fail
    go_ret
    exact ⟨rfl, gr_alloc (gr_refl _ _) _⟩
  · rw [show D.look (tRegs (f7 x)) (f3 x) = 0 by rw [tRegs, if_neg (by unfold f7; omega), if_neg (by unfold f7; omega), if_neg (by unfold f7; omega)]; rfl]
    have d0 : (((get x 25 7 : Nat) : Int) == 0) = false := by simp; omega
    have d1 : (((get x 25 7 : Nat) : Int) == 32) = false := by simp; omega
    have d2 : (((get x 25 7 : Nat) : Int) == 1) = false := by simp; omega
    go_enter Tryz.func49, Tryz.ntmps49
    go_wp2_with fail
    refine (rGet_n x 12 3 hx (by omega) (by omega) _).mono ?_
    rintro e w' ⟨rfl, rfl⟩
    generalize get x 12 3 = g at *
    go_wp2_with fail
    refine (rGet_n x 25 7 hx (by omega) (by omega) _).mono ?_
    rintro e w' ⟨rfl, rfl⟩
    generalize ((get x 25 7 : Nat) : Int) = q at *
    go_wp2_with fail
    go_ret
    exact ⟨rfl, gr_refl _ _⟩
set_option maxHeartbeats 2000000 in
theorem rregs32_c (x : Nat) (hx : x < 4294967296) (w : World) :
    Calls Tryz.prog 49 #[.int .u32 x, .bool false] w fun e w' => e = .returned (.int .i64 (D.look (tRegs32 (f7 x)) (f3 x))) ∧ w.grownBy w' none := by
  have h7 : get x 25 7 = 0 ∨ get x 25 7 = 32 ∨ get x 25 7 = 1 ∨ (get x 25 7 ≠ 0 ∧ get x 25 7 ≠ 32 ∧ get x 25 7 ≠ 1) := by omega
  have h8 := g8 x
  rcases h7 with h7 | h7 | h7 | h7
  · have HP := Lib.hid (pk (L := [45, 47, -1, -1, -1, 48]) (T := tRegs32 0) (by decide) x)
    rw [show f7 x = 0 by rw [f7, h7]; rfl]
    go_enter Tryz.func49, Tryz.ntmps49
    go_wp2_with fail
    refine (rGet_n x 12 3 hx (by omega) (by omega) _).mono ?_
    rintro e w' ⟨rfl, rfl⟩
    generalize get x 12 3 = g at *
    go_wp2_with fail
    refine (rGet_n x 25 7 hx (by omega) (by omega) _).mono ?_
    rintro e w' ⟨rfl, rfl⟩
    rw [h7]
    go_wp2_with fail
    refine (rpick_c [45, 47, -1, -1, -1, 48] (by decide) _ g h8 _ (Row.fresh w 3 (iv [45, 47, -1, -1, -1, 48]))).mono ?_
    rintro e w' ⟨rfl, rfl⟩
    rw [HP.out]
    go_wp2_with fail
    go_ret
    exact ⟨rfl, gr_alloc (gr_refl _ _) _⟩
  · have HP := Lib.hid (pk (L := [46, -1, -1, -1, -1, 49]) (T := tRegs32 32) (by decide) x)
    rw [show f7 x = 32 by rw [f7, h7]; rfl]
    go_enter Tryz.func49, Tryz.ntmps49
    go_wp2_with fail
    refine (rGet_n x 12 3 hx (by omega) (by omega) _).mono ?_
    rintro e w' ⟨rfl, rfl⟩
    generalize get x 12 3 = g at *
    go_wp2_with fail
    refine (rGet_n x 25 7 hx (by omega) (by omega) _).mono ?_
    rintro e w' ⟨rfl, rfl⟩
    rw [h7]
    go_wp2_with fail
    refine (rpick_c [46, -1, -1, -1, -1, 49] (by decide) _ g h8 _ (Row.fresh w 3 (iv [46, -1, -1, -1, -1, 49]))).mono ?_
    rintro e w' ⟨rfl, rfl⟩
    rw [HP.out]
    go_wp2_with fail
    go_ret
    exact ⟨rfl, gr_alloc (gr_refl _ _) _⟩
  · have HP := Lib.hid (pk (L := [58, -1, -1, -1, 59, 60, 61, 62]) (T := tRegs32 1) (by decide) x)
    rw [show f7 x = 1 by rw [f7, h7]; rfl]
    go_enter Tryz.func49, Tryz.ntmps49
    go_wp2_with fail
    refine (rGet_n x 12 3 hx (by omega) (by omega) _).mono ?_
    rintro e w' ⟨rfl, rfl⟩
    generalize get x 12 3 = g at *
    go_wp2_with fail
    refine (rGet_n x 25 7 hx (by omega) (by omega) _).mono ?_
    rintro e w' ⟨rfl, rfl⟩
    rw [h7]
    go_wp2_with fail
    refine (rpick_c [58, -1, -1, -1, 59, 60, 61, 62] (by decide) _ g h8 _ (Row.fresh w 3 (iv [58, -1, -1, -1, 59, 60, 61, 62]))).mono ?_
    rintro e w' ⟨rfl, rfl⟩
    rw [HP.out]
    go_wp2_with fail
    go_ret
    exact ⟨rfl, gr_alloc (gr_refl _ _) _⟩
  · rw [show D.look (tRegs32 (f7 x)) (f3 x) = 0 by rw [tRegs32, if_neg (by unfold f7; omega), if_neg (by unfold f7; omega), if_neg (by unfold f7; omega)]; rfl]
    have d0 : (((get x 25 7 : Nat) : Int) == 0) = false := by simp; omega
    have d1 : (((get x 25 7 : Nat) : Int) == 32) = false := by simp; omega
    have d2 : (((get x 25 7 : Nat) : Int) == 1) = false := by simp; omega
    go_enter Tryz.func49, Tryz.ntmps49
    go_wp2_with fail
    refine (rGet_n x 12 3 hx (by omega) (by omega) _).mono ?_
    rintro e w' ⟨rfl, rfl⟩
    generalize get x 12 3 = g at *
    go_wp2_with fail
    refine (rGet_n x 25 7 hx (by omega) (by omega) _).mono ?_
    rintro e w' ⟨rfl, rfl⟩
    generalize ((get x 25 7 : Nat) : Int) = q at *
    go_wp2_with fail
    go_ret
    exact ⟨rfl, gr_refl _ _⟩

/-! ### The system's -/
theorem sys_whole (x : Nat) (h1 : x ≠ 115) (h2 : x ≠ 1048691) (h3 : x ≠ 270532723) (h4 : x ≠ 273678451) : D.look tWholes x = 0 := by
  simp only [tWholes, D.look]
  rw [if_neg (by omega), if_neg (by omega), if_neg (by omega), if_neg (by omega)]
set_option maxHeartbeats 2000000 in
theorem rsystem_c (x : Nat) (hx : x < 4294967296) (w : World) :
    Calls Tryz.prog 50 #[.int .u32 x] w fun e w' => e = .returned (.int .i64 (sysV x (f3 x) (f7 x)).1) ∧ w.grownBy w' none := by
  by_cases h65 : x = 115
  · subst h65
    rw [show (sysV 115 (f3 115) (f7 115)).1 = 65 from by decide +kernel]
    go_enter Tryz.func50, Tryz.ntmps50
    go_wp2_with fail
    go_ret
    exact ⟨rfl, gr_refl _ _⟩
  by_cases h66 : x = 1048691
  · subst h66
    rw [show (sysV 1048691 (f3 1048691) (f7 1048691)).1 = 66 from by decide +kernel]
    go_enter Tryz.func50, Tryz.ntmps50
    go_wp2_with fail
    go_ret
    exact ⟨rfl, gr_refl _ _⟩
  by_cases h67 : x = 270532723
  · subst h67
    rw [show (sysV 270532723 (f3 270532723) (f7 270532723)).1 = 67 from by decide +kernel]
    go_enter Tryz.func50, Tryz.ntmps50
    go_wp2_with fail
    go_ret
    exact ⟨rfl, gr_refl _ _⟩
  by_cases h68 : x = 273678451
  · subst h68
    rw [show (sysV 273678451 (f3 273678451) (f7 273678451)).1 = 68 from by decide +kernel]
    go_enter Tryz.func50, Tryz.ntmps50
    go_wp2_with fail
    go_ret
    exact ⟨rfl, gr_refl _ _⟩
  have HZ := sys_whole x h65 h66 h67 h68
  have d65 : ((x : Int) == 115) = false := by simp; omega
  have d66 : ((x : Int) == 1048691) = false := by simp; omega
  have d67 : ((x : Int) == 270532723) = false := by simp; omega
  have d68 : ((x : Int) == 273678451) = false := by simp; omega
  clear h65 h66 h67 h68
  have h8 := g8 x
  by_cases h0 : get x 12 3 = 0
  · have hp : pickV [-1, 70, 71, 72, -1, 73, 74, 75] 0 = 0 := by decide
    by_cases h9 : get x 25 7 = 9
    · by_cases hr : get x 7 5 = 0
      · rw [show (sysV x (f3 x) (f7 x)).1 = 69 by rw [sysV, if_neg (by unfold f3; omega), if_pos ⟨by unfold f7; omega, hr⟩]]
        go_enter Tryz.func50, Tryz.ntmps50
        go_wp2_with fail
        refine (rGet_n x 12 3 hx (by omega) (by omega) _).mono ?_
        rintro e w' ⟨rfl, rfl⟩
        rw [h0]
        go_wp2_with fail
        refine (rGet_n x 25 7 hx (by omega) (by omega) _).mono ?_
        rintro e w' ⟨rfl, rfl⟩
        rw [h9]
        go_wp2_with fail
        refine (rRd_c x hx _).mono ?_
        rintro e w' ⟨rfl, rfl⟩
        rw [hr]
        go_wp2_with fail
        go_ret
        exact ⟨rfl, gr_refl _ _⟩
      · rw [show (sysV x (f3 x) (f7 x)).1 = 0 by rw [sysV, if_neg (by unfold f3; omega), if_neg (fun e => hr e.2)]; exact HZ]
        have dr : (((get x 7 5 : Nat) : Int) == 0) = false := by simp; exact hr
        go_enter Tryz.func50, Tryz.ntmps50
        go_wp2_with fail
        refine (rGet_n x 12 3 hx (by omega) (by omega) _).mono ?_
        rintro e w' ⟨rfl, rfl⟩
        rw [h0]
        go_wp2_with fail
        refine (rGet_n x 25 7 hx (by omega) (by omega) _).mono ?_
        rintro e w' ⟨rfl, rfl⟩
        rw [h9]
        go_wp2_with fail
        refine (rRd_c x hx _).mono ?_
        rintro e w' ⟨rfl, rfl⟩
        generalize ((get x 7 5 : Nat) : Int) = q at *
        go_wp2_with fail
        refine (rpick_c [-1, 70, 71, 72, -1, 73, 74, 75] (by decide) _ 0 (by omega) _ (Row.fresh w 3 (iv [-1, 70, 71, 72, -1, 73, 74, 75]))).mono ?_
        rintro e w' ⟨rfl, rfl⟩
        rw [hp]
        go_wp2_with fail
        go_ret
        exact ⟨rfl, gr_alloc (gr_refl _ _) _⟩
    · rw [show (sysV x (f3 x) (f7 x)).1 = 0 by rw [sysV, if_neg (by unfold f3; omega), if_neg (fun e => h9 (by have := e.1; unfold f7 at this; omega))]; exact HZ]
      have d9 : (((get x 25 7 : Nat) : Int) == 9) = false := by simp; omega
      go_enter Tryz.func50, Tryz.ntmps50
      go_wp2_with fail
      refine (rGet_n x 12 3 hx (by omega) (by omega) _).mono ?_
      rintro e w' ⟨rfl, rfl⟩
      rw [h0]
      go_wp2_with fail
      refine (rGet_n x 25 7 hx (by omega) (by omega) _).mono ?_
      rintro e w' ⟨rfl, rfl⟩
      generalize ((get x 25 7 : Nat) : Int) = q at *
      go_wp2_with fail
      refine (rpick_c [-1, 70, 71, 72, -1, 73, 74, 75] (by decide) _ 0 (by omega) _ (Row.fresh w 3 (iv [-1, 70, 71, 72, -1, 73, 74, 75]))).mono ?_
      rintro e w' ⟨rfl, rfl⟩
      rw [hp]
      go_wp2_with fail
      go_ret
      exact ⟨rfl, gr_alloc (gr_refl _ _) _⟩
  · rw [show (sysV x (f3 x) (f7 x)).1 = D.look tCsrs (f3 x) by rw [sysV, if_pos (by unfold f3; omega)]]
    have HP := Lib.hid (pk (L := [-1, 70, 71, 72, -1, 73, 74, 75]) (T := tCsrs) (by decide) x)
    have d0 : (((get x 12 3 : Nat) : Int) == 0) = false := by simp; omega
    go_enter Tryz.func50, Tryz.ntmps50
    go_wp2_with fail
    refine (rGet_n x 12 3 hx (by omega) (by omega) _).mono ?_
    rintro e w' ⟨rfl, rfl⟩
    generalize get x 12 3 = g at *
    go_wp2_with fail
    refine (rpick_c [-1, 70, 71, 72, -1, 73, 74, 75] (by decide) _ g h8 _ (Row.fresh w 3 (iv [-1, 70, 71, 72, -1, 73, 74, 75]))).mono ?_
    rintro e w' ⟨rfl, rfl⟩
    rw [HP.out]
    go_wp2_with fail
    go_ret
    exact ⟨rfl, gr_alloc (gr_refl _ _) _⟩

/-! ### Atomic ones -/
def amos : List Int := [2, 3, 1, 0, 4, 12, 8, 16, 20, 24, 28]
def uv (L : List Int) : List Value := L.map (Value.int .u32)
theorem eleven (k : Nat) (hk : k < 11) : k = 0 ∨ k = 1 ∨ k = 2 ∨ k = 3 ∨ k = 4 ∨ k = 5 ∨ k = 6 ∨ k = 7 ∨ k = 8 ∨ k = 9 ∨ k = 10 := by omega
theorem amos_at (k : Nat) (hk : k < 11) : (uv amos)[k]? = some (.int .u32 (amos.getD k 0)) := by
  rcases eleven k hk with rfl | rfl | rfl | rfl | rfl | rfl | rfl | rfl | rfl | rfl | rfl <;> rfl
theorem amos_op : ∀ k : Nat, k < 11 → D.look tAtomics (amos.getD k 0) = 76 + k := by decide
theorem amos_in : ∀ k : Nat, k < 11 → 0 ≤ amos.getD k 0 ∧ amos.getD k 0 ≤ 28 := by decide
theorem amos_no : ∀ v : Nat, v < 32 → (∀ k : Nat, k < 11 → amos.getD k 0 ≠ v) → D.look tAtomics v = 0 := by decide
/-- What is found at place k of the list. -/
def amoV (x : Nat) (first : Int) : Int := if D.look tAtomics (get x 27 5 : Nat) = 0 then 0 else D.look tAtomics (get x 27 5 : Nat) - 76 + first
theorem ato_eq (x : Nat) : (atoV x (f3 x)).1 = if f3 x ≠ 2 ∧ f3 x ≠ 3 then 0 else if get x 27 5 = 2 ∧ get x 20 5 ≠ 0 then 0 else amoV x (if f3 x = 3 then 87 else 76) := by
  have h76 : D.look tAtomics (get x 27 5 : Nat) = 76 ↔ get x 27 5 = 2 := by
    have all : ∀ v : Nat, v < 32 → (D.look tAtomics v = 76 ↔ v = 2) := by decide
    exact all _ (get_lt x 27 5)
  rw [atoV, amoV]
  generalize D.look tAtomics (get x 27 5 : Nat) = o at *
  by_cases hg : f3 x ≠ 2 ∧ f3 x ≠ 3
  · rw [if_pos (Or.inr hg), if_pos hg]
  rw [if_neg hg]
  by_cases h0 : o = 0
  · rw [if_pos (show o = 0 ∨ (f3 x ≠ 2 ∧ f3 x ≠ 3) from Or.inl h0)]
    by_cases hc : get x 27 5 = 2 ∧ get x 20 5 ≠ 0
    · rw [if_pos hc]
    · rw [if_neg hc, if_pos h0]
  rw [if_neg (show ¬ (o = 0 ∨ (f3 x ≠ 2 ∧ f3 x ≠ 3)) by omega), if_neg h0]
  by_cases h2 : get x 27 5 = 2
  · have ho := h76.2 h2
    rw [if_pos ho]
    by_cases hr : get x 20 5 ≠ 0
    · rw [if_pos hr, if_pos ⟨h2, hr⟩]
    · rw [if_neg hr, if_neg (show ¬ (get x 27 5 = 2 ∧ get x 20 5 ≠ 0) from fun e => hr e.2)]
      by_cases h3 : f3 x = 3
      · repeat rw [if_pos h3]
        simp only; omega
      · repeat rw [if_neg h3]
        simp only; omega
  · rw [if_neg (show ¬ o = 76 from fun e => h2 (h76.1 e)), if_neg (show ¬ (get x 27 5 = 2 ∧ get x 20 5 ≠ 0) from fun e => h2 e.1)]
    by_cases h3 : f3 x = 3
    · repeat rw [if_pos h3]
      simp only; omega
    · repeat rw [if_neg h3]
      simp only; omega
set_option maxHeartbeats 2000000 in
theorem ratomic_c (x : Nat) (hx : x < 4294967296) (w : World) :
    Calls Tryz.prog 51 #[.int .u32 x] w fun e w' => e = .returned (.int .i64 (atoV x (f3 x)).1) ∧ w.grownBy w' none := by
  rw [ato_eq x]
  have hl := get_lt x 27 5
  have HR := Lib.hid (Row.fresh w 25 (uv amos))
  by_cases hg : f3 x ≠ 2 ∧ f3 x ≠ 3
  · rw [if_pos hg]
    have d2 : (((get x 12 3 : Nat) : Int) != 2) = true := by have := hg.1; unfold f3 at this; simp; omega
    have d3 : (((get x 12 3 : Nat) : Int) != 3) = true := by have := hg.2; unfold f3 at this; simp; omega
    have d3' : (((get x 12 3 : Nat) : Int) == 3) = false := by have := hg.2; unfold f3 at this; simp; omega
    clear hg
    go_enter Tryz.func51, Tryz.ntmps51
    go_wp2_with fail
    refine (rGet_n x 12 3 hx (by omega) (by omega) _).mono ?_
    rintro e w' ⟨rfl, rfl⟩
    generalize ((get x 12 3 : Nat) : Int) = g at *
    go_wp2_with fail
    refine (rGet_n x 27 5 hx (by omega) (by omega) _).mono ?_
    rintro e w' ⟨rfl, rfl⟩
    go_wp2_with fail
    go_ret
    exact ⟨rfl, gr_alloc (gr_refl _ _) _⟩
  rw [if_neg hg]
  have hcase : (f3 x = 2 ∧ get x 12 3 = 2) ∨ (f3 x = 3 ∧ get x 12 3 = 3) := by unfold f3 at *; omega
  clear hg
  by_cases hr : get x 27 5 = 2 ∧ get x 20 5 ≠ 0
  · rw [if_pos hr]
    have dr : (((get x 20 5 : Nat) : Int) != 0) = true := by have := hr.2; simp; omega
    rcases hcase with ⟨_, hf⟩ | ⟨_, hf⟩
    all_goals
      go_enter Tryz.func51, Tryz.ntmps51
      go_wp2_with fail
      refine (rGet_n x 12 3 hx (by omega) (by omega) _).mono ?_
      rintro e w' ⟨rfl, rfl⟩
      rw [hf]
      go_wp2_with fail
      refine (rGet_n x 27 5 hx (by omega) (by omega) _).mono ?_
      rintro e w' ⟨rfl, rfl⟩
      rw [hr.1]
      go_wp2_with fail
      refine (rRs2_c x hx _).mono ?_
      rintro e w' ⟨rfl, rfl⟩
      generalize ((get x 20 5 : Nat) : Int) = q at *
      go_wp2_with fail
      go_ret
      exact ⟨rfl, gr_alloc (gr_refl _ _) _⟩
  rw [if_neg hr]
  have key : ∀ (first : Int) (hf : get x 12 3 = 2 ∧ first = 76 ∨ get x 12 3 = 3 ∧ first = 87), Calls Tryz.prog 51 #[.int .u32 x] w fun e w' => e = .returned (.int .i64 (amoV x first)) ∧ w.grownBy w' none := by
    intro first hf
    have fin : ∀ k : Nat, k < 11 → amos.getD k 0 = (get x 27 5 : Nat) → amoV x first = first + k := fun k hk e => by
      have := amos_op k hk
      rw [e] at this
      rw [amoV, this, if_neg (by omega)]; omega
    have non : (∀ k : Nat, k < 11 → amos.getD k 0 ≠ (get x 27 5 : Nat)) → amoV x first = 0 := fun h => by
      rw [amoV, if_pos (amos_no _ hl h)]
    have FIN := Lib.hid fin
    have NON := Lib.hid non
    clear fin non
    generalize amoV x first = res at *
    have rest : ∀ (q : Int), q = (get x 27 5 : Nat) → True := fun _ _ => trivial
    rcases hf with ⟨hf, rfl⟩ | ⟨hf, rfl⟩
    all_goals
      by_cases h2 : get x 27 5 = 2
      · have h20 : get x 20 5 = 0 := by omega
        have HF := Lib.hid (FIN.out 0 (by decide) (by rw [h2]; rfl))
        go_enter Tryz.func51, Tryz.ntmps51
        go_wp2_with fail
        refine (rGet_n x 12 3 hx (by omega) (by omega) _).mono ?_
        rintro e w' ⟨rfl, rfl⟩
        rw [hf]
        go_wp2_with fail
        refine (rGet_n x 27 5 hx (by omega) (by omega) _).mono ?_
        rintro e w' ⟨rfl, rfl⟩
        rw [h2]
        go_wp2_with fail
        refine (rRs2_c x hx _).mono ?_
        rintro e w' ⟨rfl, rfl⟩
        rw [h20]
        go_wp2_with fail
        refine wp_loop_rounds 1 ?_
        rw [rounds_succ]
        go_wp2_with fail
        go_ret
        exact ⟨ret_int HF.out.symm, gr_alloc (gr_refl _ _) _⟩
      · have d2 : (((get x 27 5 : Nat) : Int) == 2) = false := by simp; omega
        go_enter Tryz.func51, Tryz.ntmps51
        go_wp2_with fail
        refine (rGet_n x 12 3 hx (by omega) (by omega) _).mono ?_
        rintro e w' ⟨rfl, rfl⟩
        rw [hf]
        go_wp2_with fail
        refine (rGet_n x 27 5 hx (by omega) (by omega) _).mono ?_
        rintro e w' ⟨rfl, rfl⟩
        clear hr
        generalize ((get x 27 5 : Nat) : Int) = q at *
        go_wp2_with fail
        go_loop [7] (fun i => ∃ k : Nat, k ≤ 11 ∧ i = .int .i64 k ∧ ∀ j : Nat, j < k → amos.getD j 0 ≠ q) (fun i => 11 - (intOf i).toNat)
        case atStart => exact ⟨0, by omega, rfl, fun j hj => absurd hj (by omega)⟩
        case round =>
          obtain ⟨k, hk, rfl, hp⟩ := hrel
          have HP := Lib.hid hp
          clear hp
          by_cases hlt : k < 11
          · have hL := HR.out.cell k
            rw [amos_at k hlt] at hL
            simp only [uv, amos, List.map_cons, List.map_nil] at hL
            replace hL : World.cell? _ _ = some (.int .u32 (amos.getD k 0)) := hL
            by_cases he : amos.getD k 0 = q
            · have HF := Lib.hid (FIN.out k hlt he)
              rw [he] at hL
              go_wp2_with fail
              go_ret
              exact ⟨ret_int HF.out.symm, gr_alloc (gr_refl _ _) _⟩
            · have HS := Lib.hid (show ∀ j : Nat, j < k + 1 → amos.getD j 0 ≠ q from fun j hj => by
                rcases (show j < k ∨ j = k by omega) with h | rfl
                · exact HP.out j h
                · exact he)
              have dl : (amos.getD k 0 == q) = false := by simpa using he
              have hb := amos_in k hlt
              generalize amos.getD k 0 = l at *
              go_wp2_with fail
              go_round
              case rel => exact ⟨k + 1, by omega, by go_num, HS.out⟩
              case measure => simp [intOf]; omega
          · obtain rfl : k = 11 := by omega
            have HF := Lib.hid (NON.out HP.out)
            go_wp2_with fail
            go_ret
            exact ⟨ret_int HF.out.symm, gr_alloc (gr_refl _ _) _⟩
  rcases hcase with ⟨h, hf⟩ | ⟨h, hf⟩
  · rw [if_neg (by omega)]
    exact key 76 (Or.inl ⟨hf, rfl⟩)
  · rw [if_pos h]
    exact key 87 (Or.inr ⟨hf, rfl⟩)
end Go.Proofs.YtpbeamnogfjagaaGreatDoor
