/-
  The head of layer 10's statements, and the argument that stands in a block, carried on.
  Conditions: the arguments are numbers of their kinds.
-/
import Derived.Test.YtopicfmlnfnliaaPteF
namespace Go.Proofs.Ytopicfmlnfnliaa
open Go Go.RowKit W M A P
set_option linter.unusedVariables false

theorem shown10_c (w : World) : Calls Try.prog 7 #[] w fun r w' => r = .returned (.bool true) ∧ w.grownBy w' none := by
  have M1 := Lib.hid (fun W => May_c 5187 1 1 0 (by unfold B64; omega) (by unfold I64; omega) (by unfold I64; omega) (by unfold B64; omega) W)
  have M2 := Lib.hid (fun W => May_c 5187 2 1 0 (by unfold B64; omega) (by unfold I64; omega) (by unfold I64; omega) (by unfold B64; omega) W)
  have MK := Lib.hid (fun W => Make_c 5 67 (by unfold B64; omega) (by unfold B64; omega) W)
  have PG := Lib.hid (fun W => Page_c 5187 (by unfold B64; omega) W)
  rw [show mayV 5187 1 1 0 = true by decide +kernel] at M1
  rw [show mayV 5187 2 1 0 = false by decide +kernel] at M2
  rw [show makeV 5 67 = 5187 by decide +kernel] at MK
  rw [show pageV 5187 = 5 by decide +kernel] at PG
  go_enter Try.func7, Try.ntmps7
  go_wp2_with fail
  refine (MK.out _).mono ?_
  rintro r w' ⟨rfl, rfl⟩
  go_wp2_with fail
  refine (PG.out _).mono ?_
  rintro r w' ⟨rfl, rfl⟩
  go_wp2_with fail
  refine (M1.out _).mono ?_
  rintro r w1 ⟨rfl, G1⟩
  go_wp2_with fail
  refine (M2.out _).mono ?_
  rintro r w2 ⟨rfl, G2⟩
  go_wp2_with fail
  go_ret
  exact ⟨rfl, gr_trans G1 G2⟩
theorem psame {P : Program} {f : FuncId} {args : Array Value} {w : World} {v : Value} (h : Calls P f args w fun e w' => e = .returned v ∧ w = w') :
    Calls P f args w fun e w' => e = .returned v ∧ w.grownBy w' none :=
  h.mono fun _ _ ⟨he, hw⟩ => ⟨he, by rw [← hw]; exact gr_refl _ _⟩
/-- The argument of the laws stands in block b. -/
def PHeld (w0 : World) (b : Nat) (va st lv kd pr : Int) (w : World) : Prop :=
  w.cell? ⟨b, 0, none⟩ = some (.int .u64 va) ∧ w.cell? ⟨b, 1, none⟩ = some (.int .u64 st) ∧ w.cell? ⟨b, 2, none⟩ = some (.int .i64 lv) ∧ w.cell? ⟨b, 3, none⟩ = some (.int .i64 kd) ∧ w.cell? ⟨b, 4, none⟩ = some (.int .i64 pr) ∧
  Row w b 24 [.int .u64 va, .int .u64 st, .int .i64 lv, .int .i64 kd, .int .i64 pr] ∧ w0.grownBy w none
theorem pheld_of {w0 w : World} {b : Nat} {va st lv kd pr : Int} (h : Row w b 24 [.int .u64 va, .int .u64 st, .int .i64 lv, .int .i64 kd, .int .i64 pr]) (hb : w0.grownBy w none) : PHeld w0 b va st lv kd pr w :=
  ⟨h.cell 0, h.cell 1, h.cell 2, h.cell 3, h.cell 4, h, hb⟩
theorem PHeld.on {w0 w w' : World} {b : Nat} {va st lv kd pr : Int} (hg : w.grownBy w' none) (h : PHeld w0 b va st lv kd pr w) : PHeld w0 b va st lv kd pr w' :=
  pheld_of (h.2.2.2.2.2.1.grown hg (by simp)) (gr_trans h.2.2.2.2.2.2 hg)
theorem PHeld.gr {w0 w : World} {b : Nat} {va st lv kd pr : Int} (h : PHeld w0 b va st lv kd pr w) : w0.grownBy w none := h.2.2.2.2.2.2
theorem pheld_fresh (w : World) (va st lv kd pr : Int) : PHeld w w.heap.size va st lv kd pr (w.alloc (.cells #[.int .u64 va, .int .u64 st, .int .i64 lv, .int .i64 kd, .int .i64 pr] 24)) :=
  pheld_of (Row.fresh w _ _) (gr_alloc (gr_refl _ _) _)
end Go.Proofs.Ytopicfmlnfnliaa
