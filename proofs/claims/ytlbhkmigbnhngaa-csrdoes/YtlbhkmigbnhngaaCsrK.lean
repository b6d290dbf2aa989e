/-
  Which kind an op has, as the document's own answer for layer 4 has it (package suzerainref04): a contract over the translation.
  Conditions: the argument is a number of its kind.
-/
import Derived.Test.YtlbhkmigbnhngaaCsrG
namespace Go.Proofs.Ytlbhkmigbnhngaa
open Go Go.RowKit W M D A
set_option linter.unusedVariables false
set_option linter.unusedSimpArgs false
set_option maxRecDepth 100000

def iv (ps : List Int) : List Value := ps.map (Value.int .i64)
theorem lasts_at (k : Nat) (hk : k < 15) : (iv lasts)[k]? = some (.int .i64 (lasts.getD k 0)) := by
  rcases fifteen k hk with rfl | rfl | rfl | rfl | rfl | rfl | rfl | rfl | rfl | rfl | rfl | rfl | rfl | rfl | rfl <;> rfl
set_option maxHeartbeats 1000000 in
theorem rKind_c (o : Int) (ho : -9223372036854775808 ≤ o ∧ o ≤ 9223372036854775807) (w : World) :
    Calls Try.prog 25 #[.int .i64 o] w fun e w' => e = .returned (.int .i64 (kindV o)) ∧ w.grownBy w' none := by
  have HR := Lib.hid (Row.fresh w 3 (iv lasts))
  by_cases hn : o < 0
  · have HK := Lib.hid (show kindV o = 0 by rw [kindV, if_pos (by omega)])
    go_enter Try.func25, Try.ntmps25
    go_wp2_with fail
    go_ret
    exact ⟨ret_int HK.out.symm, gr_alloc (gr_refl _ _) _⟩
  have d0 : decide (o < 0) = false := by simpa using hn
  go_enter Try.func25, Try.ntmps25
  go_wp2_with fail
  go_loop [4] (fun i => ∃ k : Nat, k ≤ 15 ∧ i = .int .i64 k ∧ (k = 0 ∨ lasts.getD (k - 1) 0 < o)) (fun i => 15 - (intOf i).toNat)
  case atStart => exact ⟨0, by omega, rfl, Or.inl rfl⟩
  case round =>
    obtain ⟨k, hk, rfl, hp⟩ := hrel
    have HP := Lib.hid hp
    clear hp
    by_cases hlt : k < 15
    · have hL := HR.out.cell k
      rw [lasts_at k hlt] at hL
      simp only [iv, lasts, List.map_cons, List.map_nil] at hL
      by_cases hle : o ≤ lasts.getD k 0
      · have HK := Lib.hid (kind_at o k hlt hle HP.out)
        replace hL : World.cell? _ _ = some (.int .i64 (lasts.getD k 0)) := hL
        generalize lasts.getD k 0 = l at *
        go_wp2_with fail
        go_ret
        exact ⟨ret_int HK.out.symm, gr_alloc (gr_refl _ _) _⟩
      · have HL := Lib.hid (show lasts.getD (k + 1 - 1) 0 < o by rw [Nat.add_sub_cancel]; omega)
        have hgt : lasts.getD k 0 < o := by omega
        replace hL : World.cell? _ _ = some (.int .i64 (lasts.getD k 0)) := hL
        generalize lasts.getD k 0 = l at *
        go_wp2_with fail
        go_round
        case rel => exact ⟨k + 1, by omega, by go_num, Or.inr HL.out⟩
        case measure => simp [intOf]; omega
    · obtain rfl : k = 15 := by omega
      have HK := Lib.hid (kind_none o (by rcases HP.out with h | h; exact absurd h (by decide); exact h))
      go_wp2_with fail
      go_ret
      exact ⟨ret_int HK.out.symm, gr_alloc (gr_refl _ _) _⟩
theorem kind12 (o : Int) : kindV o = 12 ↔ 70 ≤ o ∧ o ≤ 75 := by
  constructor
  · intro h
    unfold kindV at h
    repeat' split at h
    all_goals omega
  · intro h
    have h6 : o = 70 ∨ o = 71 ∨ o = 72 ∨ o = 73 ∨ o = 74 ∨ o = 75 := by omega
    rcases h6 with rfl | rfl | rfl | rfl | rfl | rfl <;> decide +kernel
end Go.Proofs.Ytlbhkmigbnhngaa
