/-
  What the small functions of package comp answer (bits, registers, numbers): contracts over the program's translation.
  Conditions: the arguments are numbers of their kinds.
-/
import Derived.Test.YthdjbmajdbfebaaGreatCompV
import Derived.Test.YthdjbmajdbfebaaGreatFieldC
import Derived.Test.YthdjbmajdbfebaaGreatDecF
namespace Go.Proofs.YthdjbmajdbfebaaGreat
open Go Go.RowKit F W M D
set_option linter.unusedVariables false

theorem and_i64 (y m : Nat) (hy : y < 65536) (hm : m ≤ 16) (M : Int) (hM : M = ((2 ^ m - 1 : Nat) : Int)) : bits .and .i64 (y : Int) M = ((y % 2 ^ m : Nat) : Int) := by
  subst hM
  have hp : (2 : Nat) ^ m ≤ 2 ^ 16 := Nat.pow_le_pow_right (by omega) hm
  rw [show (2 : Nat) ^ 16 = 65536 from rfl] at hp
  have hle : y % 2 ^ m ≤ y := Nat.mod_le _ _
  show IntKind.i64.wrap ((BitVec.ofInt 64 (y : Int) &&& BitVec.ofInt 64 ((2 ^ m - 1 : Nat) : Int)).toNat : Int) = _
  rw [BitVec.toNat_and, ofInt_u64 y (by omega), ofInt_u64 _ (by omega), Nat.and_two_pow_sub_one_eq_mod, IntKind.wrap_i64]
  omega
theorem and_get (h l m : Nat) (hh : h < 65536) (hm : m ≤ 16) (M : Int) (hM : M = ((2 ^ m - 1 : Nat) : Int)) : bits .and .i64 (wrap64 ((h : Int) / 2 ^ l)) M = (get h l m : Nat) := by
  have hle : h / 2 ^ l ≤ h := Nat.div_le_self _ _
  have e : wrap64 ((h : Int) / 2 ^ l) = ((h / 2 ^ l : Nat) : Int) := by
    rw [cast_pow, ← Int.natCast_ediv, w64_def]
    generalize h / 2 ^ l = y at *
    omega
  rw [e, and_i64 _ m (by omega) hm M hM, F.get, Nat.shiftRight_eq_div_pow]
set_option maxHeartbeats 400000 in
theorem cget_c (h l m : Nat) (hh : h < 65536) (hl : l ≤ 15) (hm : 1 ≤ m ∧ m ≤ 5) (w : World) :
    Calls Tryz.prog 10 #[.int .u16 h, .int .u64 l, .int .u64 m] w fun e w' => e = .returned (.int .i64 (get h l m : Nat)) ∧ w = w' := by
  rcases (show m = 1 ∨ m = 2 ∨ m = 3 ∨ m = 4 ∨ m = 5 by omega) with rfl | rfl | rfl | rfl | rfl
  all_goals
    go_enter Tryz.func10, Tryz.ntmps10
    go_wp2
    go_ret
    exact ⟨ret_int (and_get h l _ hh (by decide) _ (by decide)), rfl⟩

theorem regR_c (h : Nat) (hh : h < 65536) (w : World) : Calls Tryz.prog 56 #[.int .u16 h] w fun e w' => e = .returned (.int .i64 (rR h : Nat)) ∧ w = w' := by
  go_enter Tryz.func56, Tryz.ntmps56
  go_wp2_with fail
  refine (cget_c h 7 5 hh (by decide) (by decide) _).mono ?_
  rintro e w1 ⟨rfl, rfl⟩
  go_wp2_with fail
  go_ret
  exact ⟨rfl, rfl⟩
theorem regS_c (h : Nat) (hh : h < 65536) (w : World) : Calls Tryz.prog 62 #[.int .u16 h] w fun e w' => e = .returned (.int .i64 (rS h : Nat)) ∧ w = w' := by
  go_enter Tryz.func62, Tryz.ntmps62
  go_wp2_with fail
  refine (cget_c h 2 5 hh (by decide) (by decide) _).mono ?_
  rintro e w1 ⟨rfl, rfl⟩
  go_wp2_with fail
  go_ret
  exact ⟨rfl, rfl⟩
theorem shortR_c (h : Nat) (hh : h < 65536) (w : World) : Calls Tryz.prog 53 #[.int .u16 h] w fun e w' => e = .returned (.int .i64 (sR h : Nat)) ∧ w = w' := by
  have hg := get_lt h 7 3
  rw [sR]
  have hc := fun W => cget_c h 7 3 hh (by decide) (by decide) W
  generalize get h 7 3 = g at *
  go_enter Tryz.func53, Tryz.ntmps53
  go_wp2_with fail
  refine (hc _).mono ?_
  rintro e w1 ⟨rfl, rfl⟩
  go_wp2_with fail
  go_ret
  exact ⟨ret_int (by omega), rfl⟩
theorem shortS_c (h : Nat) (hh : h < 65536) (w : World) : Calls Tryz.prog 52 #[.int .u16 h] w fun e w' => e = .returned (.int .i64 (sS h : Nat)) ∧ w = w' := by
  have hg := get_lt h 2 3
  rw [sS]
  have hc := fun W => cget_c h 2 3 hh (by decide) (by decide) W
  generalize get h 2 3 = g at *
  go_enter Tryz.func52, Tryz.ntmps52
  go_wp2_with fail
  refine (hc _).mono ?_
  rintro e w1 ⟨rfl, rfl⟩
  go_wp2_with fail
  go_ret
  exact ⟨ret_int (by omega), rfl⟩

/-- Which bits, as a row of cells. -/
def uvc (L : List Nat) : List Value := L.map fun k => .int .u64 (k : Nat)
theorem num_more {h n k : Nat} {L M : List Nat} {j : Nat} (hd : L.drop j = k :: M) : L.drop (j + 1) = M ∧ k ∈ L ∧ (uvc L)[j]? = some (.int .u64 (k : Nat)) := by
  have hk : j < L.length := by
    apply Nat.lt_of_not_le
    intro hle
    rw [List.drop_eq_nil_of_le hle] at hd
    cases hd
  rw [List.drop_eq_getElem_cons hk] at hd
  injection hd with h1 h2
  refine ⟨h2, h1 ▸ List.getElem_mem hk, ?_⟩
  simp [uvc, hk, h1]

set_option maxHeartbeats 400000 in
theorem number_c (h g : Nat) (L : List Nat) (hh : h < 65536) (hL : ∀ k ∈ L, k ≤ 15) (hn : L.length ≤ 12) (w : World) (hR : Row w g 35 (uvc L)) :
    Calls Tryz.prog 51 #[.int .u16 h, .slice (some ⟨g, 0, none⟩) L.length L.length] w fun e w' => e = .returned (.int .i64 (numV h L : Nat)) ∧ w = w' := by
  go_enter Tryz.func51, Tryz.ntmps51
  go_wp2_with fail
  go_loop [5, 10] (fun n i => ∃ (j N : Nat), j ≤ L.length ∧ i = .int .i64 j ∧ n = .int .i64 N ∧ D.num h N (L.drop j) = numV h L ∧ N < 2 ^ j) (fun _ i => L.length - (intOf i).toNat)
  case atStart => exact ⟨0, 0, Nat.zero_le _, rfl, rfl, by simp [numV], by decide⟩
  case round =>
    obtain ⟨j, N, hj, rfl, rfl, hN, hb⟩ := hrel
    have hp : (2 : Nat) ^ j ≤ 2 ^ 12 := Nat.pow_le_pow_right (by omega) (by omega)
    rw [show (2 : Nat) ^ 12 = 4096 from rfl] at hp
    have hb' : N < 4096 := by omega
    have HB := Lib.hid hb
    clear hb hp
    by_cases hlt : j < L.length
    · obtain ⟨k, M, hd⟩ : ∃ k M, L.drop j = k :: M := ⟨L[j], L.drop (j + 1), List.drop_eq_getElem_cons hlt⟩
      have c1 := hR.cell j
      have hm := num_more (h := h) (n := N) hd
      rw [hm.2.2] at c1
      have hk := hL k hm.2.1
      have HM := Lib.hid hm.1
      rw [hd, D.num] at hN
      have HN := Lib.hid hN
      clear hN hm hd
      by_cases h0 : k = 0
      · subst h0
        go_wp2_with fail
        go_round
        case rel => exact ⟨j + 1, 2 * N, by omega, by go_num, by go_num, by rw [HM.out]; simpa using HN.out, by rw [Nat.pow_succ]; have := HB.out; omega⟩
        case measure => simp [intOf]; omega
      · have hbit := bit_le h k
        have hc := Lib.hid (fun W => cget_c h k 1 hh hk (by decide) W)
        have d0 : ((k : Int) != 0) = true := by simpa using h0
        have HN2 : D.num h (2 * N + F.get h k 1) M = numV h L := by rw [← HN.out, if_neg h0]
        have HN3 := Lib.hid HN2
        clear HN2 HN
        generalize F.get h k 1 = b at *
        go_wp2_with fail
        refine (hc.out _).mono ?_
        rintro e w1 ⟨rfl, rfl⟩
        go_wp2_with fail
        go_round
        case rel => exact ⟨j + 1, 2 * N + b, by omega, by go_num, by go_num, by rw [HM.out]; exact HN3.out, by rw [Nat.pow_succ]; have := HB.out; omega⟩
        case measure => simp [intOf]; omega
    · obtain rfl : j = L.length := by omega
      rw [List.drop_length, D.num] at hN
      subst hN
      go_wp2_with fail
      go_ret
      exact ⟨rfl, rfl⟩

theorem sgd_bd (h s : Nat) (L : List Nat) : -(2 ^ L.length : Nat) ≤ sgd h s L ∧ sgd h s L < (2 ^ L.length : Nat) := by
  have h1 := numV_lt h L
  have h2 := numV_lt h [s]
  rw [sgd, cast_pow]
  rw [show (2 : Nat) ^ [s].length = 2 from rfl] at h2
  rcases (show numV h [s] = 0 ∨ numV h [s] = 1 by omega) with e | e <;> rw [e] <;> omega
set_option maxHeartbeats 1000000 in
theorem signed_c (h s g : Nat) (L : List Nat) (hh : h < 65536) (hs : s ≤ 15) (hL : ∀ k ∈ L, k ≤ 15) (hn : L.length = 5 ∨ L.length = 8 ∨ L.length = 9 ∨ L.length = 11) (w : World) (hR : Row w g 35 (uvc L)) :
    Calls Tryz.prog 58 #[.int .u16 h, .int .u64 s, .slice (some ⟨g, 0, none⟩) L.length L.length] w fun e w' => e = .returned (.int .i64 (sgd h s L)) ∧ w.grownBy w' none := by
  have h1 := numV_lt h L
  have h2 := numV_lt h [s]
  rw [show (2 : Nat) ^ [s].length = 2 from rfl] at h2
  have hF := Lib.hid (Row.fresh w 35 (uvc [s]))
  have HN := Lib.hid (number_c h g L hh hL (by omega) w hR)
  have HS := Lib.hid (fun W g' hR' => number_c h g' [s] hh (by simpa using hs) (by simp) W hR')
  rw [sgd]
  generalize numV h L = a at *
  generalize numV h [s] = b at *
  clear hR hL
  generalize L.length = n at *
  rcases hn with rfl | rfl | rfl | rfl
  all_goals
    rcases (show b = 0 ∨ b = 1 by omega) with rfl | rfl
    all_goals
      go_enter Tryz.func58, Tryz.ntmps58
      go_wp2_with fail
      refine HN.out.mono ?_
      rintro e w1 ⟨rfl, rfl⟩
      go_wp2_with fail
      refine (HS.out _ _ hF.out).mono ?_
      rintro e w1 ⟨rfl, rfl⟩
      go_wp2_with fail
      go_ret
      exact ⟨ret_int (by omega), gr_alloc (gr_refl _ _) _⟩
theorem small_c (h : Nat) (hh : h < 65536) (w : World) : Calls Tryz.prog 57 #[.int .u16 h] w fun e w' => e = .returned (.int .i64 (smallV h)) ∧ w.grownBy w' none := by
  go_enter Tryz.func57, Tryz.ntmps57
  go_wp2_with fail
  refine (signed_c h 12 _ [6, 5, 4, 3, 2] hh (by decide) (by decide) (by decide) _ (Row.fresh w 35 (uvc [6, 5, 4, 3, 2]))).mono ?_
  rintro e w1 ⟨rfl, hG⟩
  go_wp2_with fail
  go_ret
  exact ⟨rfl, gr_trans (gr_alloc (gr_refl _ _) _) hG⟩
theorem shift_c (h : Nat) (hh : h < 65536) (w : World) : Calls Tryz.prog 59 #[.int .u16 h] w fun e w' => e = .returned (.int .i64 (shiftV h)) ∧ w.grownBy w' none := by
  go_enter Tryz.func59, Tryz.ntmps59
  go_wp2_with fail
  refine (number_c h _ [12, 6, 5, 4, 3, 2] hh (by decide) (by decide) _ (Row.fresh w 35 (uvc [12, 6, 5, 4, 3, 2]))).mono ?_
  rintro e w1 ⟨rfl, rfl⟩
  go_wp2_with fail
  go_ret
  exact ⟨rfl, gr_alloc (gr_refl _ _) _⟩
theorem wordAt_c (h : Nat) (hh : h < 65536) (w : World) : Calls Tryz.prog 54 #[.int .u16 h] w fun e w' => e = .returned (.int .i64 (wordAtV h)) ∧ w.grownBy w' none := by
  go_enter Tryz.func54, Tryz.ntmps54
  go_wp2_with fail
  refine (number_c h _ [5, 12, 11, 10, 6, 0, 0] hh (by decide) (by decide) _ (Row.fresh w 35 (uvc [5, 12, 11, 10, 6, 0, 0]))).mono ?_
  rintro e w1 ⟨rfl, rfl⟩
  go_wp2_with fail
  go_ret
  exact ⟨rfl, gr_alloc (gr_refl _ _) _⟩
theorem doubleAt_c (h : Nat) (hh : h < 65536) (w : World) : Calls Tryz.prog 55 #[.int .u16 h] w fun e w' => e = .returned (.int .i64 (doubleAtV h)) ∧ w.grownBy w' none := by
  go_enter Tryz.func55, Tryz.ntmps55
  go_wp2_with fail
  refine (number_c h _ [6, 5, 12, 11, 10, 0, 0, 0] hh (by decide) (by decide) _ (Row.fresh w 35 (uvc [6, 5, 12, 11, 10, 0, 0, 0]))).mono ?_
  rintro e w1 ⟨rfl, rfl⟩
  go_wp2_with fail
  go_ret
  exact ⟨rfl, gr_alloc (gr_refl _ _) _⟩
theorem branchBy_c (h : Nat) (hh : h < 65536) (w : World) : Calls Tryz.prog 61 #[.int .u16 h] w fun e w' => e = .returned (.int .i64 (branchV h)) ∧ w.grownBy w' none := by
  go_enter Tryz.func61, Tryz.ntmps61
  go_wp2_with fail
  refine (signed_c h 12 _ [6, 5, 2, 11, 10, 4, 3, 0] hh (by decide) (by decide) (by decide) _ (Row.fresh w 35 (uvc [6, 5, 2, 11, 10, 4, 3, 0]))).mono ?_
  rintro e w1 ⟨rfl, hG⟩
  go_wp2_with fail
  go_ret
  exact ⟨rfl, gr_trans (gr_alloc (gr_refl _ _) _) hG⟩
end Go.Proofs.YthdjbmajdbfebaaGreat
