/-
  What the document's own answers for layer 4 (package suzerainref04) are made of: kinds, rows, shifts, registers, the system's, atomic ones: contracts over the translation, each by the program's plain functions.
  Conditions: the arguments are numbers of their kinds.
-/
import Derived.Test.YtpbeamnogfjagaaGreatDoorFieldR3
import Derived.Test.YtpbeamnogfjagaaGreatDoorDecQ
import Derived.Test.YtpbeamnogfjagaaGreatDoorDecN
import Derived.Test.YtpbeamnogfjagaaGreatDoorDecKV
namespace Go.Proofs.YtpbeamnogfjagaaGreatDoor
open Go Go.RowKit F W M D
set_option linter.unusedVariables false
set_option maxRecDepth 100000

theorem rGet_n (x l m : Nat) (hx : x < 4294967296) (hl : l ≤ 31) (hm : 1 ≤ m ∧ m ≤ 32) (w : World) :
    Calls Tryz.prog 31 #[.int .u32 x, .int .i64 l, .int .i64 m] w fun e w' => e = .returned (.int .u32 (get x l m : Nat)) ∧ w = w' := by
  have h := rGet_c x l m hx (by omega) (by omega) w
  rwa [gotV_nat x l m hm.1] at h

/-! ### Kind -/
theorem lasts_at (k : Nat) (hk : k < 15) : (iv lasts)[k]? = some (.int .i64 (lasts.getD k 0)) := by
  rcases fifteen k hk with rfl | rfl | rfl | rfl | rfl | rfl | rfl | rfl | rfl | rfl | rfl | rfl | rfl | rfl | rfl <;> rfl
set_option maxHeartbeats 1000000 in
theorem rKind_c (o : Int) (ho : -9223372036854775808 ≤ o ∧ o ≤ 9223372036854775807) (w : World) :
    Calls Tryz.prog 17 #[.int .i64 o] w fun e w' => e = .returned (.int .i64 (kindV o)) ∧ w.grownBy w' none := by
  have HR := Lib.hid (Row.fresh w 3 (iv lasts))
  by_cases hn : o < 0
  · have HK := Lib.hid (show kindV o = 0 by rw [kindV, if_pos (by omega)])
    go_enter Tryz.func17, Tryz.ntmps17
    go_wp2_with fail
    go_ret
    exact ⟨ret_int HK.out.symm, gr_alloc (gr_refl _ _) _⟩
  have d0 : decide (o < 0) = false := by simpa using hn
  go_enter Tryz.func17, Tryz.ntmps17
  go_wp2_with fail
  go_loop [4] (fun i => ∃ k : Nat, k ≤ 15 ∧ i = .int .i64 k ∧ (k = 0 ∨ lasts.getD (k - 1) 0 < o)) (fun i => 15 - (intOf i).toNat)
  case atStart => exact ⟨0, by omega, rfl, Or.inl rfl⟩
  case round =>
    obtain ⟨k, hk, rfl, hp⟩ := hrel
    have HP := Lib.hid hp
    clear hp
    by_cases hlt : k < 15
    · have hL := HR.out.cell k
      rw [lasts_at k hlt] at hL
      simp only [iv, lasts, List.map_cons, List.map_nil] at hL
      by_cases hle : o ≤ lasts.getD k 0
      · have HK := Lib.hid (kind_at o k hlt hle HP.out)
        replace hL : World.cell? _ _ = some (.int .i64 (lasts.getD k 0)) := hL
        generalize lasts.getD k 0 = l at *
        go_wp2_with fail
        go_ret
        exact ⟨ret_int HK.out.symm, gr_alloc (gr_refl _ _) _⟩
      · have HL := Lib.hid (show lasts.getD (k + 1 - 1) 0 < o by rw [Nat.add_sub_cancel]; omega)
        have hgt : lasts.getD k 0 < o := by omega
        replace hL : World.cell? _ _ = some (.int .i64 (lasts.getD k 0)) := hL
        generalize lasts.getD k 0 = l at *
        go_wp2_with fail
        go_round
        case rel => exact ⟨k + 1, by omega, by go_num, Or.inr HL.out⟩
        case measure => simp [intOf]; omega
    · obtain rfl : k = 15 := by omega
      have HK := Lib.hid (kind_none o (by rcases HP.out with h | h; exact absurd h (by decide); exact h))
      go_wp2_with fail
      go_ret
      exact ⟨ret_int HK.out.symm, gr_alloc (gr_refl _ _) _⟩

/-! ### Rows -/
/-- The op at a place of a row; 0 where there is none. -/
def pickV (L : List Int) (g : Nat) : Int := if L.getD g (-1) < 0 then 0 else L.getD g (-1)
set_option maxHeartbeats 1000000 in
theorem rpick_c (L : List Int) (hl : L.length ≤ 8) (b g : Nat) (hg : g ≤ 7) (w : World) (h : Row w b 3 (iv L)) :
    Calls Tryz.prog 47 #[.slice (some ⟨b, 0, none⟩) L.length L.length, .int .u32 g] w fun e w' => e = .returned (.int .i64 (pickV L g)) ∧ w = w' := by
  by_cases hlt : g < L.length
  · have c := h.cell g
    rw [iv, List.getElem?_map, List.getElem?_eq_getElem hlt] at c
    have e : L.getD g (-1) = L[g] := by simp [List.getD, hlt]
    simp only [Option.map_some] at c
    rw [← e] at c
    clear e
    rw [pickV]
    generalize L.getD g (-1) = v at *
    generalize L.length = n at *
    have d1 : decide ((n : Int) ≤ (g : Int)) = false := by simp; omega
    by_cases hv : v < 0
    · rw [if_pos hv]
      go_enter Tryz.func47, Tryz.ntmps47
      go_wp2_with fail
      go_ret
      exact ⟨rfl, rfl⟩
    · rw [if_neg hv]
      have d2 : decide (v < 0) = false := by simpa using hv
      go_enter Tryz.func47, Tryz.ntmps47
      go_wp2_with fail
      go_ret
      exact ⟨rfl, rfl⟩
  · have e : pickV L g = 0 := by rw [pickV, show L.getD g (-1) = -1 by simp [List.getD, show L.length ≤ g by omega]]; rfl
    rw [e]
    generalize L.length = n at *
    have hge : n ≤ g := by omega
    go_enter Tryz.func47, Tryz.ntmps47
    go_wp2_with fail
    go_ret
    exact ⟨rfl, rfl⟩
theorem eight (g : Nat) (h : g ≤ 7) {P : Nat → Prop} (h0 : P 0) (h1 : P 1) (h2 : P 2) (h3 : P 3) (h4 : P 4) (h5 : P 5) (h6 : P 6) (h7 : P 7) : P g := by
  rcases (show g = 0 ∨ g = 1 ∨ g = 2 ∨ g = 3 ∨ g = 4 ∨ g = 5 ∨ g = 6 ∨ g = 7 by omega) with rfl | rfl | rfl | rfl | rfl | rfl | rfl | rfl <;> assumption

/-! ### Shifts by a number -/
set_option maxHeartbeats 2000000 in
theorem rshifts_c (x : Nat) (hx : x < 4294967296) (hf : get x 12 3 = 1 ∨ get x 12 3 = 5) (w : World) :
    Calls Tryz.prog 48 #[.int .u32 x, .bool true] w fun e w' => e = .returned (.int .i64 (D.look (tShifts (get x 26 6 : Nat)) (get x 12 3 : Nat))) ∧ w = w' := by
  have ht : get x 26 6 = 0 ∨ get x 26 6 = 16 ∨ (get x 26 6 ≠ 0 ∧ get x 26 6 ≠ 16) := by omega
  rcases hf with hf | hf <;> rcases ht with ht | ht | ht
  · rw [hf, ht, show D.look (tShifts ((0 : Nat) : Int)) ((1 : Nat) : Int) = 28 from by decide]
    go_enter Tryz.func48, Tryz.ntmps48
    go_wp2_with fail
    refine (rGet_n x 12 3 hx (by omega) (by omega) _).mono ?_
    rintro e w' ⟨rfl, rfl⟩
    rw [hf]
    go_wp2_with fail
    refine (rGet_n x 26 6 hx (by omega) (by omega) _).mono ?_
    rintro e w' ⟨rfl, rfl⟩
    rw [ht]
    go_wp2_with fail
    go_ret
    exact ⟨rfl, rfl⟩
  · rw [hf, ht, show D.look (tShifts ((16 : Nat) : Int)) ((1 : Nat) : Int) = 0 from by decide]
    go_enter Tryz.func48, Tryz.ntmps48
    go_wp2_with fail
    refine (rGet_n x 12 3 hx (by omega) (by omega) _).mono ?_
    rintro e w' ⟨rfl, rfl⟩
    rw [hf]
    go_wp2_with fail
    refine (rGet_n x 26 6 hx (by omega) (by omega) _).mono ?_
    rintro e w' ⟨rfl, rfl⟩
    rw [ht]
    go_wp2_with fail
    go_ret
    exact ⟨rfl, rfl⟩
  · have d0 : (((get x 26 6 : Nat) : Int) == 0) = false := by have := ht.1; simp; omega
    have d1 : (((get x 26 6 : Nat) : Int) == 16) = false := by have := ht.2; simp; omega
    rw [no19 _ _ (by omega) (by omega)]
    clear ht
    go_enter Tryz.func48, Tryz.ntmps48
    go_wp2_with fail
    refine (rGet_n x 12 3 hx (by omega) (by omega) _).mono ?_
    rintro e w' ⟨rfl, rfl⟩
    rw [hf]
    go_wp2_with fail
    refine (rGet_n x 26 6 hx (by omega) (by omega) _).mono ?_
    rintro e w' ⟨rfl, rfl⟩
    generalize ((get x 26 6 : Nat) : Int) = q at *
    go_wp2_with fail
    go_ret
    exact ⟨rfl, rfl⟩
  · rw [hf, ht, show D.look (tShifts ((0 : Nat) : Int)) ((5 : Nat) : Int) = 29 from by decide]
    go_enter Tryz.func48, Tryz.ntmps48
    go_wp2_with fail
    refine (rGet_n x 12 3 hx (by omega) (by omega) _).mono ?_
    rintro e w' ⟨rfl, rfl⟩
    rw [hf]
    go_wp2_with fail
    refine (rGet_n x 26 6 hx (by omega) (by omega) _).mono ?_
    rintro e w' ⟨rfl, rfl⟩
    rw [ht]
    go_wp2_with fail
    go_ret
    exact ⟨rfl, rfl⟩
  · rw [hf, ht, show D.look (tShifts ((16 : Nat) : Int)) ((5 : Nat) : Int) = 30 from by decide]
    go_enter Tryz.func48, Tryz.ntmps48
    go_wp2_with fail
    refine (rGet_n x 12 3 hx (by omega) (by omega) _).mono ?_
    rintro e w' ⟨rfl, rfl⟩
    rw [hf]
    go_wp2_with fail
    refine (rGet_n x 26 6 hx (by omega) (by omega) _).mono ?_
    rintro e w' ⟨rfl, rfl⟩
    rw [ht]
    go_wp2_with fail
    go_ret
    exact ⟨rfl, rfl⟩
  · have d0 : (((get x 26 6 : Nat) : Int) == 0) = false := by have := ht.1; simp; omega
    have d1 : (((get x 26 6 : Nat) : Int) == 16) = false := by have := ht.2; simp; omega
    rw [no19 _ _ (by omega) (by omega)]
    clear ht
    go_enter Tryz.func48, Tryz.ntmps48
    go_wp2_with fail
    refine (rGet_n x 12 3 hx (by omega) (by omega) _).mono ?_
    rintro e w' ⟨rfl, rfl⟩
    rw [hf]
    go_wp2_with fail
    refine (rGet_n x 26 6 hx (by omega) (by omega) _).mono ?_
    rintro e w' ⟨rfl, rfl⟩
    generalize ((get x 26 6 : Nat) : Int) = q at *
    go_wp2_with fail
    go_ret
    exact ⟨rfl, rfl⟩
set_option maxHeartbeats 2000000 in
theorem rshifts32_c (x : Nat) (hx : x < 4294967296) (hf : get x 12 3 = 1 ∨ get x 12 3 = 5) (w : World) :
    Calls Tryz.prog 48 #[.int .u32 x, .bool false] w fun e w' => e = .returned (.int .i64 (D.look (tShifts32 (get x 25 7 : Nat)) (get x 12 3 : Nat))) ∧ w = w' := by
  have ht : get x 25 7 = 0 ∨ get x 25 7 = 32 ∨ (get x 25 7 ≠ 0 ∧ get x 25 7 ≠ 32) := by omega
  rcases hf with hf | hf <;> rcases ht with ht | ht | ht
  · rw [hf, ht, show D.look (tShifts32 ((0 : Nat) : Int)) ((1 : Nat) : Int) = 42 from by decide]
    go_enter Tryz.func48, Tryz.ntmps48
    go_wp2_with fail
    refine (rGet_n x 12 3 hx (by omega) (by omega) _).mono ?_
    rintro e w' ⟨rfl, rfl⟩
    rw [hf]
    go_wp2_with fail
    refine (rGet_n x 26 6 hx (by omega) (by omega) _).mono ?_
    rintro e w' ⟨rfl, rfl⟩
    go_wp2_with fail
    refine (rGet_n x 25 7 hx (by omega) (by omega) _).mono ?_
    rintro e w' ⟨rfl, rfl⟩
    rw [ht]
    go_wp2_with fail
    go_ret
    exact ⟨rfl, rfl⟩
  · rw [hf, ht, show D.look (tShifts32 ((32 : Nat) : Int)) ((1 : Nat) : Int) = 0 from by decide]
    go_enter Tryz.func48, Tryz.ntmps48
    go_wp2_with fail
    refine (rGet_n x 12 3 hx (by omega) (by omega) _).mono ?_
    rintro e w' ⟨rfl, rfl⟩
    rw [hf]
    go_wp2_with fail
    refine (rGet_n x 26 6 hx (by omega) (by omega) _).mono ?_
    rintro e w' ⟨rfl, rfl⟩
    go_wp2_with fail
    refine (rGet_n x 25 7 hx (by omega) (by omega) _).mono ?_
    rintro e w' ⟨rfl, rfl⟩
    rw [ht]
    go_wp2_with fail
    go_ret
    exact ⟨rfl, rfl⟩
  · have d0 : (((get x 25 7 : Nat) : Int) == 0) = false := by have := ht.1; simp; omega
    have d1 : (((get x 25 7 : Nat) : Int) == 32) = false := by have := ht.2; simp; omega
    rw [no27 _ _ (by omega) (by omega)]
    clear ht
    go_enter Tryz.func48, Tryz.ntmps48
    go_wp2_with fail
    refine (rGet_n x 12 3 hx (by omega) (by omega) _).mono ?_
    rintro e w' ⟨rfl, rfl⟩
    rw [hf]
    go_wp2_with fail
    refine (rGet_n x 26 6 hx (by omega) (by omega) _).mono ?_
    rintro e w' ⟨rfl, rfl⟩
    go_wp2_with fail
    refine (rGet_n x 25 7 hx (by omega) (by omega) _).mono ?_
    rintro e w' ⟨rfl, rfl⟩
    generalize ((get x 25 7 : Nat) : Int) = q at *
    go_wp2_with fail
    go_ret
    exact ⟨rfl, rfl⟩
  · rw [hf, ht, show D.look (tShifts32 ((0 : Nat) : Int)) ((5 : Nat) : Int) = 43 from by decide]
    go_enter Tryz.func48, Tryz.ntmps48
    go_wp2_with fail
    refine (rGet_n x 12 3 hx (by omega) (by omega) _).mono ?_
    rintro e w' ⟨rfl, rfl⟩
    rw [hf]
    go_wp2_with fail
    refine (rGet_n x 26 6 hx (by omega) (by omega) _).mono ?_
    rintro e w' ⟨rfl, rfl⟩
    go_wp2_with fail
    refine (rGet_n x 25 7 hx (by omega) (by omega) _).mono ?_
    rintro e w' ⟨rfl, rfl⟩
    rw [ht]
    go_wp2_with fail
    go_ret
    exact ⟨rfl, rfl⟩
  · rw [hf, ht, show D.look (tShifts32 ((32 : Nat) : Int)) ((5 : Nat) : Int) = 44 from by decide]
    go_enter Tryz.func48, Tryz.ntmps48
    go_wp2_with fail
    refine (rGet_n x 12 3 hx (by omega) (by omega) _).mono ?_
    rintro e w' ⟨rfl, rfl⟩
    rw [hf]
    go_wp2_with fail
    refine (rGet_n x 26 6 hx (by omega) (by omega) _).mono ?_
    rintro e w' ⟨rfl, rfl⟩
    go_wp2_with fail
    refine (rGet_n x 25 7 hx (by omega) (by omega) _).mono ?_
    rintro e w' ⟨rfl, rfl⟩
    rw [ht]
    go_wp2_with fail
    go_ret
    exact ⟨rfl, rfl⟩
  · have d0 : (((get x 25 7 : Nat) : Int) == 0) = false := by have := ht.1; simp; omega
    have d1 : (((get x 25 7 : Nat) : Int) == 32) = false := by have := ht.2; simp; omega
    rw [no27 _ _ (by omega) (by omega)]
    clear ht
    go_enter Tryz.func48, Tryz.ntmps48
    go_wp2_with fail
    refine (rGet_n x 12 3 hx (by omega) (by omega) _).mono ?_
    rintro e w' ⟨rfl, rfl⟩
    rw [hf]
    go_wp2_with fail
    refine (rGet_n x 26 6 hx (by omega) (by omega) _).mono ?_
    rintro e w' ⟨rfl, rfl⟩
    go_wp2_with fail
    refine (rGet_n x 25 7 hx (by omega) (by omega) _).mono ?_
    rintro e w' ⟨rfl, rfl⟩
    generalize ((get x 25 7 : Nat) : Int) = q at *
    go_wp2_with fail
    go_ret
    exact ⟨rfl, rfl⟩
end Go.Proofs.YtpbeamnogfjagaaGreatDoor
