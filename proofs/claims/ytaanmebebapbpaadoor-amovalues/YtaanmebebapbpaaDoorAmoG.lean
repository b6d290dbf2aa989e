/-
  Functions that a table holds: what is asked of them; and the small functions of package amo, contracts over the program's translation.
  Conditions: the arguments are numbers of their kinds.
-/
import Derived.Test.YtaanmebebapbpaaDoorAmoV
import Derived.Test.YtaanmebebapbpaaDoorAmoK
import Derived.Deep.QuietTactic
import Derived.BigQuiet
namespace Go.Proofs.YtaanmebebapbpaaDoor
open Go Go.RowKit W M D A
set_option linter.unusedVariables false

theorem still {f : FuncId} {args : Array Value} {w : World} {v : Value} (h : Calls Tryd.prog f args w fun e w' => e = .returned v ∧ w = w') : Calls Tryd.prog f args w fun e w' => e = .returned v ∧ w.grownBy w' none :=
  h.mono fun _ _ ⟨he, hw⟩ => ⟨he, hw ▸ gr_refl _ _⟩
/-- Every row of cells that stood stands. -/
def Cel (w w' : World) : Prop := ∀ g t l, Row w g t l → Row w' g t l
theorem cel_refl (w : World) : Cel w w := fun _ _ _ h => h
theorem Cel.trans {a b c : World} (h : Cel a b) (k : Cel b c) : Cel a c := fun g t l r => k g t l (h g t l r)
theorem cel_gr {w w' : World} (h : w.grownBy w' none) : Cel w w' := fun g t l r => r.grown h (by simp)
theorem cel_alloc (w : World) (o : Obj) : Cel w (w.alloc o) := cel_gr (gr_alloc (gr_refl _ _) _)
/-- The function can be called by its number. -/
def Opens (k : Nat) : Prop := ∀ args W, (callFunc k args).run Tryd.prog W = .ok (.enter k args) W
/-- The value is a function of two numbers that, called in any world that has grown from here, answers as f does. -/
def Does (w : World) (v : Value) (f : Int → Int → Int) : Prop :=
  ∃ k cap, v = .func (.func k) #[] cap ∧ Opens k ∧ (∀ a b, B64 a → B64 b → B64 (f a b)) ∧ ∀ w', Cel w w' → ∀ a b, B64 a → B64 b →
    Calls Tryd.prog k (#[.int .u64 a, .int .u64 b] ++ cap) w' fun e w'' => e = .returned (.int .u64 (f a b)) ∧ w'.grownBy w'' none
theorem Does.grown {w w' : World} {v : Value} {f : Int → Int → Int} (h : Does w v f) (hg : Cel w w') : Does w' v f := by
  obtain ⟨k, cap, h1, hc, hb, h2⟩ := h
  exact ⟨k, cap, h1, hc, hb, fun w'' hg' => h2 w'' (hg.trans hg')⟩
theorem quietly {P : Program} {f : FuncId} {args : Array Value} {W : World} {v : Value} {Q : World → Prop}
    (h : Calls P f args W fun e w' => e = .returned v ∧ W = w') (hQ : Q W) : Calls P f args W fun e w' => e = .returned v ∧ Q w' :=
  h.mono fun _ _ ⟨he, hw⟩ => ⟨he, hw ▸ hQ⟩

theorem second_c (a b : Int) (ha : B64 a) (hb : B64 b) (w : World) : Calls Tryd.prog 38 #[.int .u64 a, .int .u64 b] w fun e w' => e = .returned (.int .u64 (sndV a b)) ∧ w = w' := by
  unfold B64 at *
  go_enter Tryd.func38, Tryd.ntmps38
  go_wp2_with fail
  go_ret
  exact ⟨ret_int rfl, rfl⟩
theorem sum_c (a b : Int) (ha : B64 a) (hb : B64 b) (w : World) : Calls Tryd.prog 39 #[.int .u64 a, .int .u64 b] w fun e w' => e = .returned (.int .u64 (sumV a b)) ∧ w = w' := by
  unfold B64 at *
  go_enter Tryd.func39, Tryd.ntmps39
  go_wp2_with fail
  go_ret
  exact ⟨ret_int rfl, rfl⟩
theorem xor_c (a b : Int) (ha : B64 a) (hb : B64 b) (w : World) : Calls Tryd.prog 40 #[.int .u64 a, .int .u64 b] w fun e w' => e = .returned (.int .u64 (xorV a b)) ∧ w = w' := by
  unfold B64 at *
  go_enter Tryd.func40, Tryd.ntmps40
  go_wp2_with fail
  go_ret
  exact ⟨ret_int rfl, rfl⟩
theorem and_c (a b : Int) (ha : B64 a) (hb : B64 b) (w : World) : Calls Tryd.prog 41 #[.int .u64 a, .int .u64 b] w fun e w' => e = .returned (.int .u64 (andV a b)) ∧ w = w' := by
  unfold B64 at *
  go_enter Tryd.func41, Tryd.ntmps41
  go_wp2_with fail
  go_ret
  exact ⟨ret_int rfl, rfl⟩
theorem or_c (a b : Int) (ha : B64 a) (hb : B64 b) (w : World) : Calls Tryd.prog 42 #[.int .u64 a, .int .u64 b] w fun e w' => e = .returned (.int .u64 (orV a b)) ∧ w = w' := by
  unfold B64 at *
  go_enter Tryd.func42, Tryd.ntmps42
  go_wp2_with fail
  go_ret
  exact ⟨ret_int rfl, rfl⟩
theorem smaller_c (a b : Int) (ha : B64 a) (hb : B64 b) (w : World) : Calls Tryd.prog 45 #[.int .u64 a, .int .u64 b] w fun e w' => e = .returned (.int .u64 (minU a b)) ∧ w = w' := by
  unfold B64 at *
  go_enter Tryd.func45, Tryd.ntmps45
  go_wp2_with fail
  all_goals
    go_ret
    refine ⟨ret_int ?_, rfl⟩
    unfold minU; split <;> omega
theorem greater_c (a b : Int) (ha : B64 a) (hb : B64 b) (w : World) : Calls Tryd.prog 46 #[.int .u64 a, .int .u64 b] w fun e w' => e = .returned (.int .u64 (maxU a b)) ∧ w = w' := by
  unfold B64 at *
  go_enter Tryd.func46, Tryd.ntmps46
  go_wp2_with fail
  all_goals
    go_ret
    refine ⟨ret_int ?_, rfl⟩
    unfold maxU; split <;> omega
theorem smallerSigned_c (a b : Int) (ha : B64 a) (hb : B64 b) (w : World) : Calls Tryd.prog 43 #[.int .u64 a, .int .u64 b] w fun e w' => e = .returned (.int .u64 (minS a b)) ∧ w = w' := by
  unfold B64 at *
  go_enter Tryd.func43, Tryd.ntmps43
  go_wp2_with fail
  all_goals
    go_ret
    refine ⟨ret_int ?_, rfl⟩
    rw [u64_eq, w64_def]; unfold minS; rw [w64_def, w64_def] at *; split <;> omega
theorem greaterSigned_c (a b : Int) (ha : B64 a) (hb : B64 b) (w : World) : Calls Tryd.prog 44 #[.int .u64 a, .int .u64 b] w fun e w' => e = .returned (.int .u64 (maxS a b)) ∧ w = w' := by
  unfold B64 at *
  go_enter Tryd.func44, Tryd.ntmps44
  go_wp2_with fail
  all_goals
    go_ret
    refine ⟨ret_int ?_, rfl⟩
    rw [u64_eq, w64_def]; unfold maxS; rw [w64_def, w64_def] at *; split <;> omega

end Go.Proofs.YtaanmebebapbpaaDoor
