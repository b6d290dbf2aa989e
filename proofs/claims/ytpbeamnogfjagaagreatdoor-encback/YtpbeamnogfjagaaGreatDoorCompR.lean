/-
  What the document's own answers for layer 5 (package suzerainref05) are made of: numbers of bits, instructions of parts: contracts over the translation, each by the program's plain functions.
  Conditions: the arguments are numbers of their kinds.
-/
import Derived.Test.YtpbeamnogfjagaaGreatDoorCompV
import Derived.Test.YtpbeamnogfjagaaGreatDoorDecR
namespace Go.Proofs.YtpbeamnogfjagaaGreatDoor
open Go Go.RowKit F W M D
set_option linter.unusedVariables false
set_option maxRecDepth 100000

/-- Which bits, as a row of cells; a bit 0 is named by -1. -/
def zv (L : List Nat) : List Value := L.map fun k => .int .i64 (if k = 0 then -1 else (k : Nat))
theorem zv_more {L M : List Nat} {k j : Nat} (hd : L.drop j = k :: M) : L.drop (j + 1) = M ∧ k ∈ L ∧ (zv L)[j]? = some (.int .i64 (if k = 0 then -1 else (k : Nat))) := by
  have hk : j < L.length := by
    apply Nat.lt_of_not_le
    intro hle
    rw [List.drop_eq_nil_of_le hle] at hd
    cases hd
  rw [List.drop_eq_getElem_cons hk] at hd
  injection hd with h1 h2
  refine ⟨h2, h1 ▸ List.getElem_mem hk, ?_⟩
  simp [zv, hk, h1]

set_option maxHeartbeats 400000 in
theorem rnumber_c (h g : Nat) (L : List Nat) (hh : h < 65536) (hL : ∀ k ∈ L, k ≤ 15) (hn : L.length ≤ 12) (w : World) (hR : Row w g 3 (zv L)) :
    Calls Tryz.prog 55 #[.int .u32 h, .slice (some ⟨g, 0, none⟩) L.length L.length] w fun e w' => e = .returned (.int .i64 (numV h L : Nat)) ∧ w = w' := by
  go_enter Tryz.func55, Tryz.ntmps55
  go_wp2_with fail
  go_loop [5, 6] (fun n i => ∃ (j N : Nat), j ≤ L.length ∧ i = .int .i64 j ∧ n = .int .i64 N ∧ D.num h N (L.drop j) = numV h L ∧ N < 2 ^ j) (fun _ i => L.length - (intOf i).toNat)
  case atStart => exact ⟨0, 0, Nat.zero_le _, rfl, rfl, by simp [numV], by decide⟩
  case round =>
    obtain ⟨j, N, hj, rfl, rfl, hN, hb⟩ := hrel
    have hp : (2 : Nat) ^ j ≤ 2 ^ 12 := Nat.pow_le_pow_right (by omega) (by omega)
    rw [show (2 : Nat) ^ 12 = 4096 from rfl] at hp
    have hb' : N < 4096 := by omega
    have HB := Lib.hid hb
    clear hb hp
    by_cases hlt : j < L.length
    · obtain ⟨k, M, hd⟩ : ∃ k M, L.drop j = k :: M := ⟨L[j], L.drop (j + 1), List.drop_eq_getElem_cons hlt⟩
      have c1 := hR.cell j
      have hm := zv_more hd
      rw [hm.2.2] at c1
      have hk := hL k hm.2.1
      have HM := Lib.hid hm.1
      rw [hd, D.num] at hN
      have HN := Lib.hid hN
      clear hN hm hd
      by_cases h0 : k = 0
      · subst h0
        rw [if_pos rfl] at c1
        go_wp2_with fail
        go_round
        case rel => exact ⟨j + 1, 2 * N, by omega, by go_num, by go_num, by rw [HM.out]; simpa using HN.out, by rw [Nat.pow_succ]; have := HB.out; omega⟩
        case measure => simp [intOf]; omega
      · rw [if_neg h0] at c1
        have hbit := bit_le h k
        have hc := Lib.hid (fun W => rGet_n h k 1 (by omega) (by omega) (by decide) W)
        have HN2 : D.num h (2 * N + F.get h k 1) M = numV h L := by rw [← HN.out, if_neg h0]
        have HN3 := Lib.hid HN2
        clear HN2 HN
        generalize F.get h k 1 = b at *
        go_wp2_with fail
        refine (hc.out _).mono ?_
        rintro e w1 ⟨rfl, rfl⟩
        go_wp2_with fail
        go_round
        case rel => exact ⟨j + 1, 2 * N + b, by omega, by go_num, by go_num, by rw [HM.out]; exact HN3.out, by rw [Nat.pow_succ]; have := HB.out; omega⟩
        case measure => simp [intOf]; omega
    · obtain rfl : j = L.length := by omega
      rw [List.drop_length, D.num] at hN
      subst hN
      go_wp2_with fail
      go_ret
      exact ⟨rfl, rfl⟩

theorem sgn_sgd (h s : Nat) (hs : s ≠ 0) (L : List Nat) : sgn (L.length + 1) (numV h (s :: L)) = sgd h s L := by
  have h1 := numV_lt h L
  have h2 := bit_le h s
  rw [numV_cons h s hs, sgd, numV_one h s hs, sgn, Nat.add_sub_cancel, cast_pow, cast_pow, Nat.pow_succ]
  generalize numV h L = a at *
  generalize 2 ^ L.length = p at *
  rcases (show F.get h s 1 = 0 ∨ F.get h s 1 = 1 by omega) with e | e <;> rw [e]
  · rw [if_pos (by omega)]; omega
  · rw [if_neg (by omega)]; omega
set_option maxHeartbeats 400000 in
theorem rsigned_c (h s g : Nat) (L : List Nat) (hh : h < 65536) (hs : s ≠ 0) (hL : ∀ k ∈ s :: L, k ≤ 15) (hn : L.length ≤ 11) (w : World) (hR : Row w g 3 (zv (s :: L))) :
    Calls Tryz.prog 57 #[.int .u32 h, .slice (some ⟨g, 0, none⟩) (s :: L).length (s :: L).length] w fun e w' => e = .returned (.int .i64 (sgd h s L)) ∧ w = w' := by
  have hlt := numV_lt h (s :: L)
  have hp : (2 : Nat) ^ (s :: L).length ≤ 2 ^ 12 := Nat.pow_le_pow_right (by omega) (by rw [List.length_cons]; omega)
  rw [show (2 : Nat) ^ 12 = 4096 from rfl] at hp
  have HN := Lib.hid (rnumber_c h g (s :: L) hh hL (by rw [List.length_cons]; omega) w hR)
  have HE := Lib.hid ((sext_sgn (numV h (s :: L)) (L.length + 1) (by omega) (by omega) (by simpa using hlt)).trans (sgn_sgd h s hs L))
  rw [List.length_cons] at *
  generalize numV h (s :: L) = a at *
  generalize sgd h s L = r at *
  have ha : a < 4096 := by omega
  clear hlt hp hL hR
  generalize L.length = n at *
  go_enter Tryz.func57, Tryz.ntmps57
  go_wp2_with fail
  refine HN.out.mono ?_
  rintro e w1 ⟨rfl, rfl⟩
  go_wp2_with fail
  refine (rSext_c _ _ (by omega) (by omega) _).mono ?_
  rintro e w1 ⟨rfl, rfl⟩
  go_wp2_with fail
  go_ret
  exact ⟨ret_int HE.out, rfl⟩
theorem rsmall_c (h : Nat) (hh : h < 65536) (w : World) : Calls Tryz.prog 58 #[.int .u32 h] w fun e w' => e = .returned (.int .i64 (smallV h)) ∧ w.grownBy w' none := by
  go_enter Tryz.func58, Tryz.ntmps58
  go_wp2_with fail
  refine (rsigned_c h 12 _ [6, 5, 4, 3, 2] hh (by decide) (by decide) (by decide) _ (Row.fresh w 3 (zv [12, 6, 5, 4, 3, 2]))).mono ?_
  rintro e w1 ⟨rfl, rfl⟩
  go_wp2_with fail
  go_ret
  exact ⟨rfl, gr_alloc (gr_refl _ _) _⟩
theorem rshift_c (h : Nat) (hh : h < 65536) (w : World) : Calls Tryz.prog 60 #[.int .u32 h] w fun e w' => e = .returned (.int .i64 (D.shiftV h)) ∧ w.grownBy w' none := by
  go_enter Tryz.func60, Tryz.ntmps60
  go_wp2_with fail
  refine (rnumber_c h _ [12, 6, 5, 4, 3, 2] hh (by decide) (by decide) _ (Row.fresh w 3 (zv [12, 6, 5, 4, 3, 2]))).mono ?_
  rintro e w1 ⟨rfl, rfl⟩
  go_wp2_with fail
  go_ret
  exact ⟨rfl, gr_alloc (gr_refl _ _) _⟩
theorem rnone_c (w : World) : Calls Tryz.prog 35 #[] w fun e w' => e = .returned (.agg #[.int .i64 0, .int .i64 0, .int .i64 0, .int .i64 0, .int .i64 0, .int .i64 2]) ∧ w.grownBy w' none := by
  go_enter Tryz.func35, Tryz.ntmps35
  go_wp2_with fail
  exact six_ret rfl rfl rfl (Row.fresh w 23 [_, _, _, _, _, _]) ⟨rfl, gr_alloc (gr_refl _ _) _⟩
theorem rmake3_c (o rd rs1 rs2 im : Int) (w : World) : Calls Tryz.prog 56 #[.int .i64 o, .int .i64 rd, .int .i64 rs1, .int .i64 rs2, .int .i64 im] w fun e w' => e = .returned (.agg #[.int .i64 o, .int .i64 rd, .int .i64 rs1, .int .i64 rs2, .int .i64 im, .int .i64 2]) ∧ w.grownBy w' none := by
  go_enter Tryz.func56, Tryz.ntmps56
  go_wp2_with fail
  exact six_ret rfl rfl rfl (Row.fresh w 23 [_, _, _, _, _, _]) ⟨rfl, gr_alloc (gr_refl _ _) _⟩
end Go.Proofs.YtpbeamnogfjagaaGreatDoor
