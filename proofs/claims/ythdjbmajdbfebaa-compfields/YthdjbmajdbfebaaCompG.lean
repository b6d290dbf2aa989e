/-
  What the forms of package comp with more ways answer, and the table of the forms: contracts over the program's translation.
  Conditions: the arguments are numbers of their kinds.
-/
import Derived.Test.YthdjbmajdbfebaaCompF
import Derived.BigQuiet
namespace Go.Proofs.Ythdjbmajdbfebaa
open Go Go.RowKit F W M D
set_option linter.unusedVariables false

/-- A call that leaves the world as it is, met in a region that only reads. -/
theorem quietly {P : Program} {f : FuncId} {args : Array Value} {W : World} {v : Value} {Q : World → Prop}
    (h : Calls P f args W fun e w' => e = .returned v ∧ W = w') (hQ : Q W) : Calls P f args W fun e w'' => e = .returned v ∧ Q w'' :=
  h.mono fun _ _ ⟨he, hw⟩ => ⟨he, hw ▸ hQ⟩

/-- Get, by numbers that are ints. -/
def gI (h : Nat) (l m : Int) : Int := (F.get h l.toNat m.toNat : Nat)
theorem cgetI_c (h : Nat) (l m : Int) (hh : h < 65536) (hl : 0 ≤ l ∧ l ≤ 15) (hm : 1 ≤ m ∧ m ≤ 5) (w : World) :
    Calls Try.prog 12 #[.int .u16 h, .int .u64 l, .int .u64 m] w fun e w' => e = .returned (.int .i64 (gI h l m)) ∧ w = w' := by
  have := cget_c h l.toNat m.toNat hh (by omega) (by omega) w
  rw [Int.toNat_of_nonneg hl.1, Int.toNat_of_nonneg (show 0 ≤ m by omega)] at this
  exact this
set_option maxHeartbeats 2000000 in
theorem pairOp_c (h : Nat) (hh : h < 65536) (w : World) :
    Calls Try.prog 58 #[.int .u16 h] w fun e w' => e = .returned (.int .i64 (pairV (F.get h 12 1) (F.get h 5 2))) ∧ w.grownBy w' none := by
  have hb : gI h 12 1 = (F.get h 12 1 : Nat) := rfl
  have hc : gI h 5 2 = (F.get h 5 2 : Nat) := rfl
  have b1 := bit_le h 12
  have c1 := get_lt h 5 2
  generalize F.get h 12 1 = b at *
  generalize F.get h 5 2 = c at *
  rcases (show b = 0 ∨ b = 1 by omega) with rfl | rfl
  all_goals
    rcases (show c = 0 ∨ c = 1 ∨ c = 2 ∨ c = 3 by omega) with rfl | rfl | rfl | rfl
    all_goals
      clear b1 c1
      go_enter Try.func58, Try.ntmps58
      go_wp2_with fail
      go_quiet ((go_at_call 12; exact quietly (cgetI_c h _ _ hh (by decide) (by decide) _) ⟨_, rfl⟩))
      go_wp2_with fail
      go_ret
      exact ⟨rfl, gr_drewN (gr_alloc (gr_refl _ _) _) _⟩

set_option maxHeartbeats 4000000 in
theorem cf_arithmetic (h : Nat) (hh : h < 65536) (w : World) :
    Calls Try.prog 30 #[.int .u16 h] w fun e w' => e = .returned (.agg (insn 0 (vArithmetic h))) ∧ w.grownBy w' none := by
  have hb := Lib.hid (fun W => cget_c h 10 2 hh (by decide) (by decide) W)
  have b1 := get_lt h 10 2
  rw [vArithmetic]
  generalize F.get h 10 2 = b at *
  have HR := Lib.hid ((Row.fresh w 25 six0).alloc (.cells #[.int .i64 0, .int .i64 (sR h : Nat), .int .i64 (sR h : Nat), .int .i64 0, .int .i64 0, .int .i64 0] 25))
  have HX := Lib.hid (Row.fresh (w.alloc (.cells six0.toArray 25)) 25 [.int .i64 0, .int .i64 (sR h : Nat), .int .i64 (sR h : Nat), .int .i64 0, .int .i64 0, .int .i64 0])
  rw [World.size_alloc] at HX
  rcases (show b = 0 ∨ b = 1 ∨ b = 2 ∨ b = 3 by omega) with rfl | rfl | rfl | rfl
  · rw [if_pos rfl]
    go_enter Try.func30, Try.ntmps30
    go_wp2_with fail
    refine (shortR_c h hh _).mono ?_
    rintro e w0 ⟨rfl, rfl⟩
    go_wp2_with fail
    refine (shortR_c h hh _).mono ?_
    rintro e w0 ⟨rfl, rfl⟩
    go_wp2_with fail
    refine (hb.out _).mono ?_
    rintro e w0 ⟨rfl, rfl⟩
    go_wp2_with fail
    refine (shift_c h hh _).mono ?_
    rintro e w1 ⟨rfl, hG⟩
    have hR := Lib.hid (HR.out.grown hG (by simp)); have k0 := hR.out.cell 0; have k1 := hR.out.cell 1; have k2 := hR.out.cell 2; have k3 := hR.out.cell 3; have k4 := hR.out.cell 4; have k5 := hR.out.cell 5; have kz := hR.out.free; simp only [six0, List.getElem?_cons_zero, List.getElem?_cons_succ] at k0 k1 k2 k3 k4 k5
    have hX := Lib.hid (HX.out.grown hG (by simp)); have x0 := hX.out.cell 0; have x1 := hX.out.cell 1; have x2 := hX.out.cell 2; have x3 := hX.out.cell 3; have x4 := hX.out.cell 4; have x5 := hX.out.cell 5; have xz := hX.out.free; simp only [List.getElem?_cons_zero, List.getElem?_cons_succ] at x0 x1 x2 x3 x4 x5
    go_wp2_with fail
    exact six_ret rfl rfl rfl (six ((hR.out.other (by simp) _).other (by simp) _) rfl _ _ _ _ _ _) ⟨rfl, six_gr (gr_row (gr_set (gr_set (gr_none (gr_trans (gr_alloc (gr_alloc (gr_refl _ _) _) _) hG) _) _) _) (by omega)) (Nat.le_refl _) _ _ _ _ _ _⟩
  · rw [if_neg (by decide), if_pos rfl]
    go_enter Try.func30, Try.ntmps30
    go_wp2_with fail
    refine (shortR_c h hh _).mono ?_
    rintro e w0 ⟨rfl, rfl⟩
    go_wp2_with fail
    refine (shortR_c h hh _).mono ?_
    rintro e w0 ⟨rfl, rfl⟩
    go_wp2_with fail
    refine (hb.out _).mono ?_
    rintro e w0 ⟨rfl, rfl⟩
    go_wp2_with fail
    refine (shift_c h hh _).mono ?_
    rintro e w1 ⟨rfl, hG⟩
    have hR := Lib.hid (HR.out.grown hG (by simp)); have k0 := hR.out.cell 0; have k1 := hR.out.cell 1; have k2 := hR.out.cell 2; have k3 := hR.out.cell 3; have k4 := hR.out.cell 4; have k5 := hR.out.cell 5; have kz := hR.out.free; simp only [six0, List.getElem?_cons_zero, List.getElem?_cons_succ] at k0 k1 k2 k3 k4 k5
    have hX := Lib.hid (HX.out.grown hG (by simp)); have x0 := hX.out.cell 0; have x1 := hX.out.cell 1; have x2 := hX.out.cell 2; have x3 := hX.out.cell 3; have x4 := hX.out.cell 4; have x5 := hX.out.cell 5; have xz := hX.out.free; simp only [List.getElem?_cons_zero, List.getElem?_cons_succ] at x0 x1 x2 x3 x4 x5
    go_wp2_with fail
    exact six_ret rfl rfl rfl (six ((hR.out.other (by simp) _).other (by simp) _) rfl _ _ _ _ _ _) ⟨rfl, six_gr (gr_row (gr_set (gr_set (gr_none (gr_trans (gr_alloc (gr_alloc (gr_refl _ _) _) _) hG) _) _) _) (by omega)) (Nat.le_refl _) _ _ _ _ _ _⟩
  · rw [if_neg (by decide), if_neg (by decide), if_pos rfl]
    go_enter Try.func30, Try.ntmps30
    go_wp2_with fail
    refine (shortR_c h hh _).mono ?_
    rintro e w0 ⟨rfl, rfl⟩
    go_wp2_with fail
    refine (shortR_c h hh _).mono ?_
    rintro e w0 ⟨rfl, rfl⟩
    go_wp2_with fail
    refine (hb.out _).mono ?_
    rintro e w0 ⟨rfl, rfl⟩
    go_wp2_with fail
    refine (small_c h hh _).mono ?_
    rintro e w1 ⟨rfl, hG⟩
    have hR := Lib.hid (HR.out.grown hG (by simp)); have k0 := hR.out.cell 0; have k1 := hR.out.cell 1; have k2 := hR.out.cell 2; have k3 := hR.out.cell 3; have k4 := hR.out.cell 4; have k5 := hR.out.cell 5; have kz := hR.out.free; simp only [six0, List.getElem?_cons_zero, List.getElem?_cons_succ] at k0 k1 k2 k3 k4 k5
    have hX := Lib.hid (HX.out.grown hG (by simp)); have x0 := hX.out.cell 0; have x1 := hX.out.cell 1; have x2 := hX.out.cell 2; have x3 := hX.out.cell 3; have x4 := hX.out.cell 4; have x5 := hX.out.cell 5; have xz := hX.out.free; simp only [List.getElem?_cons_zero, List.getElem?_cons_succ] at x0 x1 x2 x3 x4 x5
    go_wp2_with fail
    exact six_ret rfl rfl rfl (six ((hR.out.other (by simp) _).other (by simp) _) rfl _ _ _ _ _ _) ⟨rfl, six_gr (gr_row (gr_set (gr_set (gr_none (gr_trans (gr_alloc (gr_alloc (gr_refl _ _) _) _) hG) _) _) _) (by omega)) (Nat.le_refl _) _ _ _ _ _ _⟩
  · rw [if_neg (by decide), if_neg (by decide), if_neg (by decide)]
    have HP := Lib.hid (fun W => pairOp_c h hh W)
    generalize pairV (F.get h 12 1) (F.get h 5 2) = o at *
    go_enter Try.func30, Try.ntmps30
    go_wp2_with fail
    refine (shortR_c h hh _).mono ?_
    rintro e w0 ⟨rfl, rfl⟩
    go_wp2_with fail
    refine (shortR_c h hh _).mono ?_
    rintro e w0 ⟨rfl, rfl⟩
    go_wp2_with fail
    refine (hb.out _).mono ?_
    rintro e w0 ⟨rfl, rfl⟩
    go_wp2_with fail
    refine (HP.out _).mono ?_
    rintro e w1 ⟨rfl, hG⟩
    have hR := Lib.hid (HR.out.grown hG (by simp)); have k0 := hR.out.cell 0; have k1 := hR.out.cell 1; have k2 := hR.out.cell 2; have k3 := hR.out.cell 3; have k4 := hR.out.cell 4; have k5 := hR.out.cell 5; have kz := hR.out.free; simp only [six0, List.getElem?_cons_zero, List.getElem?_cons_succ] at k0 k1 k2 k3 k4 k5
    have hX := Lib.hid (HX.out.grown hG (by simp)); have x0 := hX.out.cell 0; have x1 := hX.out.cell 1; have x2 := hX.out.cell 2; have x3 := hX.out.cell 3; have x4 := hX.out.cell 4; have x5 := hX.out.cell 5; have xz := hX.out.free; simp only [List.getElem?_cons_zero, List.getElem?_cons_succ] at x0 x1 x2 x3 x4 x5
    go_wp2_with fail
    refine (shortS_c h hh _).mono ?_
    rintro e w0 ⟨rfl, rfl⟩
    go_wp2_with fail
    exact six_ret rfl rfl rfl (six ((hR.out.other (by simp) _).other (by simp) _) rfl _ _ _ _ _ _) ⟨rfl, six_gr (gr_row (gr_set (gr_set (gr_none (gr_trans (gr_alloc (gr_alloc (gr_refl _ _) _) _) hG) _) _) _) (by omega)) (Nat.le_refl _) _ _ _ _ _ _⟩

theorem six_other {w : World} {g gx : Nat} {t : TypeId} {l : List Value} (h : Row w g t l) (hne : g ≠ gx) (a b c d e f : Value) :
    Row ((((((w.setCell ⟨gx, 0, none⟩ a).setCell ⟨gx, 1, none⟩ b).setCell ⟨gx, 2, none⟩ c).setCell ⟨gx, 3, none⟩ d).setCell ⟨gx, 4, none⟩ e).setCell ⟨gx, 5, none⟩ f) g t l :=
  (((((h.other hne a).other hne b).other hne c).other hne d).other hne e).other hne f
set_option maxHeartbeats 4000000 in
theorem cf_addStackOrLui (h : Nat) (hh : h < 65536) (w : World) :
    Calls Try.prog 29 #[.int .u16 h] w fun e w' => e = .returned (.agg (insn 0 (vStackOrLui h))) ∧ w.grownBy w' none := by
  have hr := Lib.hid (fun W => regR_c h hh W)
  have hs := Lib.hid (fun W => small_c h hh W)
  have hq := Lib.hid (fun W g hR => signed_c h 12 g [4, 3, 5, 2, 6, 0, 0, 0, 0] hh (by decide) (by decide) (by decide) W hR)
  have HR := Lib.hid (Row.fresh w 25 six0)
  have sb : -32 ≤ smallV h ∧ smallV h < 32 := sgd_bd h 12 [6, 5, 4, 3, 2]
  rw [vStackOrLui, stackV]
  generalize rR h = r at *
  generalize smallV h = s at *
  generalize sgd h 12 [4, 3, 5, 2, 6, 0, 0, 0, 0] = n at *
  by_cases h2 : r = 2
  · subst h2
    rw [if_pos rfl]
    by_cases h0 : n = 0
    · subst h0
      rw [if_pos rfl]
      go_enter Try.func29, Try.ntmps29
      go_wp2_with fail
      refine (hr.out _).mono ?_
      rintro e w0 ⟨rfl, rfl⟩
      go_wp2_with fail
      refine (hs.out _).mono ?_
      rintro e w1 ⟨rfl, hG⟩
      have hR := Lib.hid (HR.out.grown hG (by simp))
      have hlt := hR.out.lt
      go_wp2_with fail
      refine (hr.out _).mono ?_
      rintro e w0 ⟨rfl, rfl⟩
      go_wp2_with fail
      refine (hq.out _ _ (by have hf := Row.fresh (w1.alloc (.cells #[.int .i64 1, .int .i64 2, .int .i64 0, .int .i64 0, .int .i64 (s * 4096), .int .i64 0] 25)) 31 (uvc [4, 3, 5, 2, 6, 0, 0, 0, 0]); rwa [World.size_alloc] at hf)).mono ?_
      rintro e w2 ⟨rfl, hG2⟩
      have hX := Lib.hid (((Row.fresh w1 25 [.int .i64 1, .int .i64 2, .int .i64 0, .int .i64 0, .int .i64 (s * 4096), .int .i64 0]).alloc _).grown hG2 (by simp)); have x0 := hX.out.cell 0; have x1 := hX.out.cell 1; have x2 := hX.out.cell 2; have x3 := hX.out.cell 3; have x4 := hX.out.cell 4; have x5 := hX.out.cell 5; have xz := hX.out.free; simp only [List.getElem?_cons_zero, List.getElem?_cons_succ] at x0 x1 x2 x3 x4 x5
      have hR2 := Lib.hid (((hR.out.alloc _).alloc _).grown hG2 (by simp)); have k0 := hR2.out.cell 0; have k1 := hR2.out.cell 1; have k2 := hR2.out.cell 2; have k3 := hR2.out.cell 3; have k4 := hR2.out.cell 4; have k5 := hR2.out.cell 5; have kz := hR2.out.free; simp only [six0, List.getElem?_cons_zero, List.getElem?_cons_succ] at k0 k1 k2 k3 k4 k5
      have GG := Lib.hid (gr_trans (gr_trans (gr_alloc (gr_refl w none) _) hG) (gr_trans (gr_alloc (gr_alloc (gr_refl w1 none) _) _) hG2))
      have hne : w.heap.size ≠ w1.heap.size := by omega
      go_wp2_with fail
      refine (cnone_c h hh _).mono ?_
      rintro e w3 ⟨rfl, hG3⟩
      simp only [insn, vNone, bar]
      have hR3 := Lib.hid ((six_other hR2.out hne _ _ _ _ _ _).grown hG3 (by simp)); have m0 := hR3.out.cell 0; have m1 := hR3.out.cell 1; have m2 := hR3.out.cell 2; have m3 := hR3.out.cell 3; have m4 := hR3.out.cell 4; have m5 := hR3.out.cell 5; have mz := hR3.out.free; simp only [six0, List.getElem?_cons_zero, List.getElem?_cons_succ] at m0 m1 m2 m3 m4 m5
      clear k0 k1 k2 k3 k4 k5 kz x0 x1 x2 x3 x4 x5 xz
      go_wp2_with fail
      exact six_ret rfl rfl rfl (six hR3.out rfl _ _ _ _ _ _) ⟨rfl, six_gr (gr_trans (six_gr GG.out (by omega) _ _ _ _ _ _) hG3) (Nat.le_refl _) _ _ _ _ _ _⟩
    · rw [if_neg h0]
      have d0 : (n == 0) = false := by simpa using h0
      go_enter Try.func29, Try.ntmps29
      go_wp2_with fail
      refine (hr.out _).mono ?_
      rintro e w0 ⟨rfl, rfl⟩
      go_wp2_with fail
      refine (hs.out _).mono ?_
      rintro e w1 ⟨rfl, hG⟩
      have hR := Lib.hid (HR.out.grown hG (by simp))
      have hlt := hR.out.lt
      go_wp2_with fail
      refine (hr.out _).mono ?_
      rintro e w0 ⟨rfl, rfl⟩
      go_wp2_with fail
      refine (hq.out _ _ (by have hf := Row.fresh (w1.alloc (.cells #[.int .i64 1, .int .i64 2, .int .i64 0, .int .i64 0, .int .i64 (s * 4096), .int .i64 0] 25)) 31 (uvc [4, 3, 5, 2, 6, 0, 0, 0, 0]); rwa [World.size_alloc] at hf)).mono ?_
      rintro e w2 ⟨rfl, hG2⟩
      have hX := Lib.hid (((Row.fresh w1 25 [.int .i64 1, .int .i64 2, .int .i64 0, .int .i64 0, .int .i64 (s * 4096), .int .i64 0]).alloc _).grown hG2 (by simp)); have x0 := hX.out.cell 0; have x1 := hX.out.cell 1; have x2 := hX.out.cell 2; have x3 := hX.out.cell 3; have x4 := hX.out.cell 4; have x5 := hX.out.cell 5; have xz := hX.out.free; simp only [List.getElem?_cons_zero, List.getElem?_cons_succ] at x0 x1 x2 x3 x4 x5
      have hR2 := Lib.hid (((hR.out.alloc _).alloc _).grown hG2 (by simp)); have k0 := hR2.out.cell 0; have k1 := hR2.out.cell 1; have k2 := hR2.out.cell 2; have k3 := hR2.out.cell 3; have k4 := hR2.out.cell 4; have k5 := hR2.out.cell 5; have kz := hR2.out.free; simp only [six0, List.getElem?_cons_zero, List.getElem?_cons_succ] at k0 k1 k2 k3 k4 k5
      have GG := Lib.hid (gr_trans (gr_trans (gr_alloc (gr_refl w none) _) hG) (gr_trans (gr_alloc (gr_alloc (gr_refl w1 none) _) _) hG2))
      have hne : w.heap.size ≠ w1.heap.size := by omega
      go_wp2_with fail
      exact six_ret rfl rfl rfl (six (six_other hR2.out hne _ _ _ _ _ _) rfl _ _ _ _ _ _) ⟨rfl, six_gr (six_gr GG.out (by omega) _ _ _ _ _ _) (Nat.le_refl _) _ _ _ _ _ _⟩
  · rw [if_neg h2]
    have d2 : ((r : Int) == 2) = false := by simpa using (show (r : Int) ≠ 2 by omega)
    by_cases h0 : s = 0
    · subst h0
      rw [if_pos rfl]
      go_enter Try.func29, Try.ntmps29
      go_wp2_with fail
      refine (hr.out _).mono ?_
      rintro e w0 ⟨rfl, rfl⟩
      go_wp2_with fail
      refine (hs.out _).mono ?_
      rintro e w1 ⟨rfl, hG⟩
      have hR := Lib.hid (HR.out.grown hG (by simp))
      have hlt := hR.out.lt
      go_wp2_with fail
      refine (hr.out _).mono ?_
      rintro e w0 ⟨rfl, rfl⟩
      have hR2 := Lib.hid (hR.out.alloc (.cells #[.int .i64 1, .int .i64 r, .int .i64 0, .int .i64 0, .int .i64 0, .int .i64 0] 25))
      go_wp2_with fail
      refine (cnone_c h hh _).mono ?_
      rintro e w3 ⟨rfl, hG3⟩
      simp only [insn, vNone, bar]
      have hR3 := Lib.hid (hR2.out.grown hG3 (by simp)); have m0 := hR3.out.cell 0; have m1 := hR3.out.cell 1; have m2 := hR3.out.cell 2; have m3 := hR3.out.cell 3; have m4 := hR3.out.cell 4; have m5 := hR3.out.cell 5; have mz := hR3.out.free; simp only [six0, List.getElem?_cons_zero, List.getElem?_cons_succ] at m0 m1 m2 m3 m4 m5
      go_wp2_with fail
      exact six_ret rfl rfl rfl (six hR3.out rfl _ _ _ _ _ _) ⟨rfl, six_gr (gr_trans (gr_alloc (gr_trans (gr_alloc (gr_refl w none) _) hG) _) hG3) (Nat.le_refl _) _ _ _ _ _ _⟩
    · rw [if_neg h0]
      have d0 : (s * 4096 == 0) = false := by simpa using h0
      go_enter Try.func29, Try.ntmps29
      go_wp2_with fail
      refine (hr.out _).mono ?_
      rintro e w0 ⟨rfl, rfl⟩
      go_wp2_with fail
      refine (hs.out _).mono ?_
      rintro e w1 ⟨rfl, hG⟩
      have hR := Lib.hid (HR.out.grown hG (by simp))
      have hlt := hR.out.lt
      go_wp2_with fail
      refine (hr.out _).mono ?_
      rintro e w0 ⟨rfl, rfl⟩
      have k0 := hR.out.cell 0; have k1 := hR.out.cell 1; have k2 := hR.out.cell 2; have k3 := hR.out.cell 3; have k4 := hR.out.cell 4; have k5 := hR.out.cell 5; have kz := hR.out.free; simp only [six0, List.getElem?_cons_zero, List.getElem?_cons_succ] at k0 k1 k2 k3 k4 k5
      go_wp2_with fail
      exact six_ret rfl rfl rfl ((six hR.out rfl _ _ _ _ _ _).alloc _) ⟨rfl, gr_alloc (six_gr (gr_trans (gr_alloc (gr_refl w none) _) hG) (Nat.le_refl _) _ _ _ _ _ _) _⟩

end Go.Proofs.Ythdjbmajdbfebaa
