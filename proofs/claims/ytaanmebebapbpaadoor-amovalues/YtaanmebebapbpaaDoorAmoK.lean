/-
  What Kind of package decode answers, over its table: a contract over the program's translation.
  Conditions: the table, a variable of the package, holds what its text lays.
-/
import Derived.Test.YtaanmebebapbpaaDoorAmoC
import Derived.Test.YtaanmebebapbpaaDoorRamM
import Derived.Test.YtaanmebebapbpaaDoorAluKV
namespace Go.Proofs.YtaanmebebapbpaaDoor
open Go Go.RowKit W M D
set_option linter.unusedVariables false
set_option maxRecDepth 100000

/-- The table of each kind's last op stands where the program's text lays it. -/
def Tbl (w : World) : Prop := ∀ i, i < 15 → w.cell? ⟨0, i, none⟩ = some (.int .i64 (lasts.getD i 0))
theorem Tbl.lt {w : World} (h : Tbl w) : 0 < w.heap.size := block_lt_of_cell (h 0 (by omega))
theorem Tbl.grown {w w' : World} (h : Tbl w) (hg : w.grownBy w' none) : Tbl w' := fun i hi => by
  rw [← h i hi]
  simp [World.cell?, hg.block 0 h.lt (by simp)]
theorem tbl_at (k : Nat) (hk : k < 15) (w : World) : (Instr.index 68 (.agg #[.int .i64 0, .int .i64 4, .int .i64 10, .int .i64 17, .int .i64 21, .int .i64 30, .int .i64 40, .int .i64 44, .int .i64 49, .int .i64 57, .int .i64 62, .int .i64 69, .int .i64 75, .int .i64 86, .int .i64 97]) (.int .i64 k)).run Tryd.prog w = .ok (.int .i64 (lasts.getD k 0)) w := by
  rcases fifteen k hk with rfl | rfl | rfl | rfl | rfl | rfl | rfl | rfl | rfl | rfl | rfl | rfl | rfl | rfl | rfl
  all_goals kernel_rfl
set_option maxHeartbeats 1000000 in
theorem Kind_c (o : Int) (ho : -9223372036854775808 ≤ o ∧ o ≤ 9223372036854775807) (w : World) (h : Tbl w) :
    Calls Tryd.prog 27 #[.int .i64 o] w fun e w' => e = .returned (.int .i64 (kindV o)) ∧ w = w' := by
  have c0 := h 0 (by omega)
  have c1 := h 1 (by omega)
  have c2 := h 2 (by omega)
  have c3 := h 3 (by omega)
  have c4 := h 4 (by omega)
  have c5 := h 5 (by omega)
  have c6 := h 6 (by omega)
  have c7 := h 7 (by omega)
  have c8 := h 8 (by omega)
  have c9 := h 9 (by omega)
  have c10 := h 10 (by omega)
  have c11 := h 11 (by omega)
  have c12 := h 12 (by omega)
  have c13 := h 13 (by omega)
  have c14 := h 14 (by omega)
  simp [lasts] at c0 c1 c2 c3 c4 c5 c6 c7 c8 c9 c10 c11 c12 c13 c14
  clear h
  go_enter Tryd.func27, Tryd.ntmps27
  go_wp2_with fail
  go_loop [6] (fun i => ∃ k : Nat, k ≤ 15 ∧ i = .int .i64 k ∧ (k = 0 ∨ lasts.getD (k - 1) 0 < o)) (fun i => 15 - (intOf i).toNat)
  case atStart => exact ⟨0, by omega, rfl, Or.inl rfl⟩
  case round =>
    obtain ⟨k, hk, rfl, hp⟩ := hrel
    have HP := Lib.hid hp
    clear hp
    by_cases hlt : k < 15
    · have hL := tbl_at k hlt w
      by_cases hle : o ≤ lasts.getD k 0
      · have HK := Lib.hid (kind_at o k hlt hle HP.out)
        generalize lasts.getD k 0 = l at *
        go_wp2_with fail
        go_ret
        exact ⟨ret_int HK.out.symm, rfl⟩
      · have HL := Lib.hid (show lasts.getD (k + 1 - 1) 0 < o by rw [Nat.add_sub_cancel]; omega)
        have hgt : lasts.getD k 0 < o := by omega
        generalize lasts.getD k 0 = l at *
        go_wp2_with fail
        go_round
        case rel => exact ⟨k + 1, by omega, by go_num, Or.inr HL.out⟩
        case measure => simp [intOf]; omega
    · obtain rfl : k = 15 := by omega
      have HK := Lib.hid (kind_none o (by rcases HP.out with h | h; exact absurd h (by decide); exact h))
      go_wp2_with fail
      go_ret
      exact ⟨ret_int HK.out.symm, rfl⟩
end Go.Proofs.YtaanmebebapbpaaDoor
