/-
  A new row of leaves (New), the number of walks (Misses), a row of its own (Clone): contracts over the program's translation.
  Conditions: the row stands behind its pointer; the arguments are numbers of their kinds.
-/
import Derived.Test.YtbjjcfocdngaoaaTlbD
import Derived.Laws.LoneSync
import Derived.Deep.RegionHeld3
import Derived.StillTailTactics
namespace Go.Proofs.Ytbjjcfocdngaoaa
open Go Go.RowKit W M D A C P K
set_option linter.unusedVariables false
set_option linter.unusedSimpArgs false

theorem infoKA : (Try.prog.info? 71).map (fun i => (i.zero, i.size, i.bytes)) = some (some (.agg #[.int .u64 0, .int .u64 0, .int .u64 0, .int .i64 0, .bool false]), 5, 40) := by kernel_rfl
abbrev missT := T.missT
theorem miss_64 (n : Int) : B64 (missT n) := by unfold missT T.missT B64; omega
theorem aload_c (p : Nat) (x : Int) (w : World) (hc : w.cell? ⟨p, 2, none⟩ = some (.int .u64 x)) :
    Calls Try.prog 29 #[.pointer (some ⟨p, 2, none⟩)] w fun e w' => e = .returned (.int .u64 x) ∧ w = w' := by
  have hd := run_call_load (P := Try.prog) Try.func53 (by kernel_rfl) (by kernel_rfl) (by kernel_rfl) .u64 (by kernel_rfl) hc
  go_enter Try.func29, Try.ntmps29
  go_wp2_with fail
  go_ret
  exact ⟨rfl, rfl⟩
theorem aadd_c (p : Nat) (x : Int) (w : World) (hc : w.cell? ⟨p, 2, none⟩ = some (.int .u64 x)) (hz : w.frozen? ⟨p, 2, none⟩ = false) :
    Calls Try.prog 26 #[.pointer (some ⟨p, 2, none⟩), .int .u64 1] w fun e w' => e = .returned (.int .u64 (missT x)) ∧ w' = w.setCell ⟨p, 2, none⟩ (.int .u64 (missT x)) := by
  have hd := run_call_add (P := Try.prog) Try.func44 (by kernel_rfl) (by kernel_rfl) (by kernel_rfl) .u64 (by kernel_rfl) (y := 1) (s := missT x) hc hz (by
    have e : IntKind.u64.wrap (x + 1) = missT x := u64_eq _
    simp [go_sem, e])
  go_enter Try.func26, Try.ntmps26
  go_wp2_with fail
  go_ret
  exact ⟨rfl, rfl⟩
theorem Misses_c (B p most : Nat) (v : Value) (n : Int) (L : List T.Lf) (w : World) (h : HAt w B p most v n L) :
    Calls Try.prog 12 #[.pointer (some ⟨p, 0, none⟩)] w fun e w' => e = .returned (.int .u64 n) ∧ w = w' := by
  have c2 := h.c2
  have AL := Lib.hid (fun W hc => aload_c p n W hc)
  clear h
  go_enter Try.func12, Try.ntmps12
  go_wp2_with fail
  refine (AL.out _ c2).mono ?_
  rintro e w' ⟨rfl, rfl⟩
  go_wp2_with fail
  go_ret
  exact ⟨rfl, rfl⟩
theorem new_fin (w : World) (m : Nat) (x : Int) (hx : x = m) (h8 : m ≤ 8) : HAt (w.alloc (.cells #[.int .i64 x, .slice none 0 0, .int .u64 0] 68)) w.heap.size w.heap.size m (.slice none 0 0) 0 [] := by
  subst hx
  exact ⟨Row.fresh w 68 [.int .i64 m, .slice none 0 0, .int .u64 0], T.Arr.nil _ _ _, fun k hk => (by cases hk), Nat.zero_le _, h8, Nat.le_refl _, (by unfold B64; omega)⟩
theorem TNew_c (most : Int) (hm : I64 most) (w : World) :
    Calls Try.prog 7 #[.int .i64 most] w fun e w' => e = .returned (.pointer (some ⟨w.heap.size, 0, none⟩)) ∧ HAt w' w.heap.size w.heap.size (T.mostV most) (.slice none 0 0) 0 [] ∧ w.grownBy w' none := by
  unfold I64 at hm
  go_enter Try.func7, Try.ntmps7
  go_wp2_with fail
  all_goals go_ret
  all_goals exact ⟨rfl, new_fin w _ _ (by unfold T.mostV; omega) (T.most_le _), gr_alloc (gr_refl _ _) _⟩

end Go.Proofs.Ytbjjcfocdngaoaa
