/-
  What the document's own answers for layer 8 (package suzerainref08) are made of: contracts over the translation, each by the program's plain functions.
  Conditions: the arguments are numbers of their kinds.
-/
import Derived.Test.YtaanmebebapbpaaDoorAmoV
import Derived.Test.YtaanmebebapbpaaDoorAmoK
import Derived.Test.YtaanmebebapbpaaDoorWordS
import Derived.Test.YtaanmebebapbpaaDoorWordRW
namespace Go.Proofs.YtaanmebebapbpaaDoor
open Go Go.RowKit W M D A
set_option linter.unusedVariables false
set_option linter.unusedSimpArgs false
set_option maxRecDepth 100000

def iv (ps : List Int) : List Value := ps.map (Value.int .i64)
theorem lasts_at (k : Nat) (hk : k < 15) : (iv lasts)[k]? = some (.int .i64 (lasts.getD k 0)) := by
  rcases fifteen k hk with rfl | rfl | rfl | rfl | rfl | rfl | rfl | rfl | rfl | rfl | rfl | rfl | rfl | rfl | rfl <;> rfl
set_option maxHeartbeats 1000000 in
theorem rKind_c (o : Int) (ho : -9223372036854775808 ≤ o ∧ o ≤ 9223372036854775807) (w : World) :
    Calls Tryd.prog 28 #[.int .i64 o] w fun e w' => e = .returned (.int .i64 (kindV o)) ∧ w.grownBy w' none := by
  have HR := Lib.hid (Row.fresh w 3 (iv lasts))
  by_cases hn : o < 0
  · have HK := Lib.hid (show kindV o = 0 by rw [kindV, if_pos (by omega)])
    go_enter Tryd.func28, Tryd.ntmps28
    go_wp2_with fail
    go_ret
    exact ⟨ret_int HK.out.symm, gr_alloc (gr_refl _ _) _⟩
  have d0 : decide (o < 0) = false := by simpa using hn
  go_enter Tryd.func28, Tryd.ntmps28
  go_wp2_with fail
  go_loop [4] (fun i => ∃ k : Nat, k ≤ 15 ∧ i = .int .i64 k ∧ (k = 0 ∨ lasts.getD (k - 1) 0 < o)) (fun i => 15 - (intOf i).toNat)
  case atStart => exact ⟨0, by omega, rfl, Or.inl rfl⟩
  case round =>
    obtain ⟨k, hk, rfl, hp⟩ := hrel
    have HP := Lib.hid hp
    clear hp
    by_cases hlt : k < 15
    · have hL := HR.out.cell k
      rw [lasts_at k hlt] at hL
      simp only [iv, lasts, List.map_cons, List.map_nil] at hL
      by_cases hle : o ≤ lasts.getD k 0
      · have HK := Lib.hid (kind_at o k hlt hle HP.out)
        replace hL : World.cell? _ _ = some (.int .i64 (lasts.getD k 0)) := hL
        generalize lasts.getD k 0 = l at *
        go_wp2_with fail
        go_ret
        exact ⟨ret_int HK.out.symm, gr_alloc (gr_refl _ _) _⟩
      · have HL := Lib.hid (show lasts.getD (k + 1 - 1) 0 < o by rw [Nat.add_sub_cancel]; omega)
        have hgt : lasts.getD k 0 < o := by omega
        replace hL : World.cell? _ _ = some (.int .i64 (lasts.getD k 0)) := hL
        generalize lasts.getD k 0 = l at *
        go_wp2_with fail
        go_round
        case rel => exact ⟨k + 1, by omega, by go_num, Or.inr HL.out⟩
        case measure => simp [intOf]; omega
    · obtain rfl : k = 15 := by omega
      have HK := Lib.hid (kind_none o (by rcases HP.out with h | h; exact absurd h (by decide); exact h))
      go_wp2_with fail
      go_ret
      exact ⟨ret_int HK.out.symm, gr_alloc (gr_refl _ _) _⟩

set_option maxHeartbeats 400000 in
theorem rSext_c (x n : Int) (hx : 0 ≤ x ∧ x ≤ 18446744073709551615) (hn : -9223372036854775808 ≤ n ∧ n ≤ 9223372036854775807) (w : World) :
    Calls Tryd.prog 30 #[.int .u64 x, .int .i64 n] w fun e w' => e = .returned (.int .u64 (sextV x n)) ∧ w = w' := by
  by_cases h : n < 1 ∨ 63 < n
  · by_cases h1 : n < 1
    all_goals
      go_enter Tryd.func30, Tryd.ntmps30
      go_wp2
      go_ret
      exact ⟨ret_int (by simp only [sextV]; rw [if_pos (by omega)]), rfl⟩
  · obtain ⟨m, rfl⟩ : ∃ m : Nat, n = m := ⟨n.toNat, by omega⟩
    have h1 : 1 ≤ m := by omega
    have h2 : m ≤ 63 := by omega
    have E := Lib.hid (sextV_eq x m h1 h2)
    have p0 := wrap_pow m (by omega)
    have p1 := wrap_pow ((m : Int) - 1) (by omega)
    have b0 := pow_bd m (by omega)
    have b1 := pow_bd ((m : Int) - 1) (by omega)
    rw [Int.toNat_natCast] at p0 b0
    rw [show ((m : Int) - 1).toNat = m - 1 from by omega] at p1 b1
    have hm := Int.emod_nonneg x (b := 2 ^ m) (by omega)
    have hm2 := Int.emod_lt_of_pos x (b := 2 ^ m) (by omega)
    clear h
    generalize sextV x m = y at *
    by_cases hl : x % 2 ^ m < 2 ^ (m - 1)
    all_goals
      go_enter Tryd.func30, Tryd.ntmps30
      go_wp2_with fail
      go_ret
      refine ⟨ret_int ?_, rfl⟩
      rw [E.out]
    · rw [if_pos hl]
    · rw [if_neg (by omega), u64_eq]
      omega


theorem before_c (a b : Int) (s : Bool) (ha : B64 a) (hb : B64 b) (w : World) :
    Calls Tryd.prog 32 #[.int .u64 a, .int .u64 b, .bool s] w fun e w' => e = .returned (.bool (befV a b s)) ∧ w = w' := by
  unfold B64 at ha hb
  cases s
  · go_enter Tryd.func32, Tryd.ntmps32
    go_wp2_with fail
    go_ret
    exact ⟨rfl, rfl⟩
  · have e0 : befV a b true = decide (wrap64 a < wrap64 b) := rfl
    rw [e0, w64_def, w64_def]
    have ra : a / 9223372036854775808 = 0 ∨ a / 9223372036854775808 = 1 := by omega
    have rb : b / 9223372036854775808 = 0 ∨ b / 9223372036854775808 = 1 := by omega
    rcases ra with ra | ra <;> rcases rb with rb | rb
    all_goals
      go_enter Tryd.func32, Tryd.ntmps32
      go_wp2_with fail
      go_ret
      refine ⟨ret_boo ?_, rfl⟩
      first
        | (symm; apply decide_eq_true; omega)
        | (symm; apply decide_eq_false; omega)
        | (apply decide_eq_decide.2; omega)
set_option maxHeartbeats 1000000 in
theorem rSize_c (o : Int) (ho : -9223372036854775808 ≤ o ∧ o ≤ 9223372036854775807) (w : World) :
    Calls Tryd.prog 11 #[.int .i64 o] w fun e w' => e = .returned (.int .i64 (szV o)) ∧ w.grownBy w' none := by
  have HK := Lib.hid (fun W => rKind_c o ho W)
  unfold szV
  generalize kindV o = k at *
  by_cases h13 : k = 13
  · subst h13
    rw [if_pos rfl]
    go_enter Tryd.func11, Tryd.ntmps11
    go_wp2_with fail
    refine (HK.out _).mono ?_
    rintro e w' ⟨rfl, hG⟩
    go_wp2_with fail
    go_ret
    exact ⟨rfl, hG⟩
  rw [if_neg h13]
  have d13 : (k == 13) = false := by simpa using h13
  by_cases h14 : k = 14
  · subst h14
    rw [if_pos rfl]
    go_enter Tryd.func11, Tryd.ntmps11
    go_wp2_with fail
    refine (HK.out _).mono ?_
    rintro e w' ⟨rfl, hG⟩
    go_wp2_with fail
    go_ret
    exact ⟨rfl, hG⟩
  rw [if_neg h14]
  have d14 : (k == 14) = false := by simpa using h14
  go_enter Tryd.func11, Tryd.ntmps11
  go_wp2_with fail
  refine (HK.out _).mono ?_
  rintro e w' ⟨rfl, hG⟩
  go_wp2_with fail
  go_ret
  exact ⟨rfl, hG⟩
theorem sz4 {o : Int} (h : szV o = 4) : kindV o = 13 := by
  unfold szV at h; split at h
  · assumption
  · split at h <;> omega
theorem sz4' {o : Int} (h : szV o ≠ 4) : kindV o ≠ 13 := by
  intro e; apply h; unfold szV; rw [if_pos e]
set_option maxHeartbeats 1000000 in
theorem rTold_c (o a : Int) (ho : -9223372036854775808 ≤ o ∧ o ≤ 9223372036854775807) (ha : B64 a) (w : World) :
    Calls Tryd.prog 13 #[.int .i64 o, .int .u64 a] w fun e w' => e = .returned (.int .u64 (toldV o a)) ∧ w.grownBy w' none := by
  have HK := Lib.hid (fun W => rSize_c o ho W)
  have HS := Lib.hid (fun W => rSext_c a 32 ha (by decide) W)
  by_cases h : szV o = 4
  · have ht : toldV o a = sextV a 32 := by rw [toldV, if_pos (sz4 h)]
    rw [ht]
    rw [h] at HK
    clear h ht
    unfold B64 at ha
    go_enter Tryd.func13, Tryd.ntmps13
    go_wp2_with fail
    refine (HK.out _).mono ?_
    rintro e w' ⟨rfl, hG⟩
    go_wp2_with fail
    refine (HS.out _).mono ?_
    rintro e w' ⟨rfl, rfl⟩
    go_wp2_with fail
    go_ret
    exact ⟨rfl, hG⟩
  · have ht : toldV o a = a := by rw [toldV, if_neg (sz4' h)]
    rw [ht]
    have d : (szV o == 4) = false := by simpa using h
    generalize szV o = k at *
    clear ht
    unfold B64 at ha
    go_enter Tryd.func13, Tryd.ntmps13
    go_wp2_with fail
    refine (HK.out _).mono ?_
    rintro e w' ⟨rfl, hG⟩
    go_wp2_with fail
    go_ret
    exact ⟨rfl, hG⟩
end Go.Proofs.YtaanmebebapbpaaDoor
