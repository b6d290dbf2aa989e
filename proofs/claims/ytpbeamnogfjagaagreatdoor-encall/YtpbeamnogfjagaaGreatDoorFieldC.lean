/-
  What each function of package field answers: contracts over the program's translation.
  Conditions: the arguments are numbers of their kinds.
-/
import Derived.Test.YtpbeamnogfjagaaGreatDoorProg
import Derived.Test.YtpbeamnogfjagaaGreatDoorFieldB
import Derived.Test.YtpbeamnogfjagaaGreatDoorRamM
import Derived.Lib.Hide
import Derived.BigQuiet
import Derived.Laws.Shifts
namespace Go.Proofs.YtpbeamnogfjagaaGreatDoor
open Go Go.RowKit F W M
set_option linter.unusedVariables false

theorem ret_int {k : IntKind} {a b : Int} (h : a = b) : Ending.returned (.int k a) = .returned (.int k b) := by rw [h]

set_option maxHeartbeats 400000 in
theorem Sext_c (x n : Int) (hx : 0 ≤ x ∧ x ≤ 18446744073709551615) (hn : -9223372036854775808 ≤ n ∧ n ≤ 9223372036854775807) (w : World) :
    Calls Tryz.prog 122 #[.int .u64 x, .int .i64 n] w fun e w' => e = .returned (.int .u64 (sextV x n)) ∧ w = w' := by
  by_cases h : n < 1 ∨ 63 < n
  · by_cases h1 : n < 1
    all_goals
      go_enter Tryz.func122, Tryz.ntmps122
      go_wp2
      go_ret
      exact ⟨ret_int (by simp only [sextV]; rw [if_pos (by omega)]), rfl⟩
  · have h1 : 1 ≤ n := by omega
    have h2 : n ≤ 63 := by omega
    have H := Lib.hid h; clear h
    go_enter Tryz.func122, Tryz.ntmps122
    go_wp2
    go_ret
    exact ⟨ret_int (by simp only [sextV]; rw [if_neg H.out]), rfl⟩

set_option maxHeartbeats 400000 in
theorem Get_c (x : Nat) (l m : Int) (hx : x < 4294967296) (hl : -9223372036854775808 ≤ l ∧ l ≤ 9223372036854775807) (hm : -9223372036854775808 ≤ m ∧ m ≤ 9223372036854775807) (w : World) :
    Calls Tryz.prog 76 #[.int .u32 x, .int .i64 l, .int .i64 m] w fun e w' => e = .returned (.int .u32 (gotV x l m : Nat)) ∧ ∃ n, w' = w.drewN n := by
  by_cases h : l < 0 ∨ m < 1
  · rw [gotV, if_pos h]
    by_cases l0 : l < 0
    · go_enter Tryz.func76, Tryz.ntmps76
      go_wp2
      go_ret
      exact ⟨rfl, 0, rfl⟩
    · have m0 : m < 1 := by omega
      have l1 : 0 ≤ l := by omega
      go_enter Tryz.func76, Tryz.ntmps76
      go_wp2
      go_ret
      exact ⟨rfl, 0, rfl⟩
  · rw [gotV, if_neg h]
    have l1 : 0 ≤ l := by omega
    have m1 : 1 ≤ m := by omega
    have m0 : 0 ≤ m := by omega
    have HG := Lib.hid (mask_get x l m hx l1 m1)
    clear h
    go_enter Tryz.func76, Tryz.ntmps76
    go_wp2
    go_quiet (fail)
    go_wp2
    go_ret
    exact ⟨ret_int HG.out, _, rfl⟩

/-- Spans, as a row of cells. -/
def sv (L : Spans) : List Value := L.flatMap fun p => [.int .i64 (p.1 : Nat), .int .i64 (p.2 : Nat)]
theorem sv_get : ∀ (L : Spans) (k : Nat) (h : k < L.length), (sv L)[2 * k]? = some (.int .i64 (L[k].1 : Nat)) ∧ (sv L)[2 * k + 1]? = some (.int .i64 (L[k].2 : Nat))
  | [], k, h => by simp at h
  | p :: L, 0, h => ⟨rfl, rfl⟩
  | p :: L, k + 1, h => by
    have := sv_get L k (by simpa using h)
    exact ⟨by simpa [sv, Nat.mul_add] using this.1, by simpa [sv, Nat.mul_add] using this.2⟩

/-- What layout hands on: the zeros, and spans in a new row. -/
def Laid (w : World) (f : Int) (e : Ending) (w' : World) : Prop :=
  e = .returned (.tuple #[.int .i64 (zer f : Nat), .slice (some ⟨w.heap.size, 0, none⟩) (spn f).length (spn f).length]) ∧ Row w' w.heap.size 105 (sv (spn f)) ∧ w.grownBy w' none
set_option maxHeartbeats 400000 in
theorem layout_c (f : Int) (h : 1 ≤ f ∧ f ≤ 5) (w : World) : Calls Tryz.prog 97 #[.int .i64 f] w (Laid w f) := by
  rcases (show f = 1 ∨ f = 2 ∨ f = 3 ∨ f = 4 ∨ f = 5 by omega) with rfl | rfl | rfl | rfl | rfl
  all_goals
    go_enter Tryz.func97, Tryz.ntmps97
    go_wp2
    go_ret2
    exact ⟨rfl, by first | exact Row.fresh w _ (sv (spn 1)) | exact Row.fresh w _ (sv (spn 2)) | exact Row.fresh w _ (sv (spn 3)) | exact Row.fresh w _ (sv (spn 4)) | exact Row.fresh w _ (sv (spn 5)), gr_alloc (gr_refl _ _) _⟩
set_option maxHeartbeats 400000 in
theorem layout_no (f : Int) (h : f < 1 ∨ 5 < f) (w : World) : Calls Tryz.prog 97 #[.int .i64 f] w fun e w' => e = .returned (.tuple #[.int .i64 0, .slice none 0 0]) ∧ w = w' := by
  have h1 : f ≠ 1 := by omega
  have h2 : f ≠ 2 := by omega
  have h3 : f ≠ 3 := by omega
  have h4 : f ≠ 4 := by omega
  have h5 : f ≠ 5 := by omega
  clear h
  go_enter Tryz.func97, Tryz.ntmps97
  go_wp2
  go_ret2
  exact ⟨rfl, rfl⟩
end Go.Proofs.YtpbeamnogfjagaaGreatDoor
