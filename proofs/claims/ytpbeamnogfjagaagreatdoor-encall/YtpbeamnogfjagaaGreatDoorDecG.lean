/-
  The forms of package decode, as functions that are handed on: contracts over the program's translation.
  Conditions: the arguments are numbers of their kinds.
-/
import Derived.Test.YtpbeamnogfjagaaGreatDoorDecF
namespace Go.Proofs.YtpbeamnogfjagaaGreatDoor
open Go Go.RowKit F W M D
set_option linter.unusedVariables false

/-- The value is a function that, called at the word x in any world that has grown from here, answers r. -/
def Fun (w : World) (v : Value) (x : Nat) (r : Value) : Prop :=
  ∃ k cap, v = .func (.func k) #[] cap ∧ (∀ args W, (callFunc k args).run Tryz.prog W = .ok (.enter k args) W) ∧ ∀ w', w.grownBy w' none → Calls Tryz.prog k (#[.int .u32 x] ++ cap) w' fun e w'' => e = .returned r ∧ w'.grownBy w'' none
theorem Fun.grown {w w' : World} {v : Value} {x : Nat} {r : Value} (h : Fun w v x r) (hg : w.grownBy w' none) : Fun w' v x r := by
  obtain ⟨k, cap, h1, hc, h2⟩ := h
  exact ⟨k, cap, h1, hc, fun w'' hg' => h2 w'' (gr_trans hg hg')⟩
/-- A call that hands back such a function. -/
def GivesF (w : World) (x : Nat) (r : Value) (e : Ending) (w' : World) : Prop := ∃ v, e = .returned v ∧ Fun w' v x r ∧ w.grownBy w' none
theorem target_imm (x : Nat) (hx : x < 4294967296) (n : Int) (v : Value) (w : World) (h : IsImm w v x n) :
    Calls Tryz.prog 77 #[v] w (GivesF w x (.agg (insn 0 (0, tgt x n)))) := by
  have hmf : ∀ (fn : Fn) (first cap : Array Value) (w : World), (Instr.makeFunc fn first cap).run Tryz.prog w = .ok (.func fn first cap) w := fun _ _ _ _ => rfl
  obtain ⟨p, rfl, hv⟩ := h
  have HV := Lib.hid hv
  have HR := Lib.hid (Row.fresh w 81 [.func (.func 102) #[] #[p]])
  clear hv
  go_enter Tryz.func77, Tryz.ntmps77
  go_wp2_with fail
  go_ret
  exact ⟨_, rfl, ⟨_, _, rfl, fun _ _ => by kernel_rfl, fun w' hg => target1_imm x hx n _ p w' (HR.out.grown hg (by simp)) fun w'' hg' => HV.out w'' (gr_trans (gr_alloc (gr_refl _ _) _) (gr_trans hg hg'))⟩, gr_alloc (gr_refl _ _) _⟩
theorem source_imm (x : Nat) (hx : x < 4294967296) (n : Int) (v : Value) (w : World) (h : IsImm w v x n) :
    Calls Tryz.prog 80 #[v] w (GivesF w x (.agg (insn 0 (0, src x n)))) := by
  have hmf : ∀ (fn : Fn) (first cap : Array Value) (w : World), (Instr.makeFunc fn first cap).run Tryz.prog w = .ok (.func fn first cap) w := fun _ _ _ _ => rfl
  obtain ⟨p, rfl, hv⟩ := h
  have HV := Lib.hid hv
  have HR := Lib.hid (Row.fresh w 81 [.func (.func 102) #[] #[p]])
  clear hv
  go_enter Tryz.func80, Tryz.ntmps80
  go_wp2_with fail
  go_ret
  exact ⟨_, rfl, ⟨_, _, rfl, fun _ _ => by kernel_rfl, fun w' hg => source1_imm x hx n _ p w' (HR.out.grown hg (by simp)) fun w'' hg' => HV.out w'' (gr_trans (gr_alloc (gr_refl _ _) _) (gr_trans hg hg'))⟩, gr_alloc (gr_refl _ _) _⟩
theorem source_bits (x : Nat) (hx : x < 4294967296) (n : Int) (v : Value) (w : World) (h : IsBits w v x n) :
    Calls Tryz.prog 80 #[v] w (GivesF w x (.agg (insn 0 (0, src x n)))) := by
  have hmf : ∀ (fn : Fn) (first cap : Array Value) (w : World), (Instr.makeFunc fn first cap).run Tryz.prog w = .ok (.func fn first cap) w := fun _ _ _ _ => rfl
  obtain ⟨p, q, rfl, hv⟩ := h
  have HV := Lib.hid hv
  have HR := Lib.hid (Row.fresh w 81 [.func (.func 123) #[] #[p, q]])
  clear hv
  go_enter Tryz.func80, Tryz.ntmps80
  go_wp2_with fail
  go_ret
  exact ⟨_, rfl, ⟨_, _, rfl, fun _ _ => by kernel_rfl, fun w' hg => source1_bits x hx n _ p q w' (HR.out.grown hg (by simp)) fun w'' hg' => HV.out w'' (gr_trans (gr_alloc (gr_refl _ _) _) (gr_trans hg hg'))⟩, gr_alloc (gr_refl _ _) _⟩
theorem source_none (x : Nat) (hx : x < 4294967296) (w : World) :
    Calls Tryz.prog 80 #[.func (.func 113) #[] #[]] w (GivesF w x (.agg (insn 0 (0, src x 0)))) := by
  have hmf : ∀ (fn : Fn) (first cap : Array Value) (w : World), (Instr.makeFunc fn first cap).run Tryz.prog w = .ok (.func fn first cap) w := fun _ _ _ _ => rfl
  have HR := Lib.hid (Row.fresh w 81 [.func (.func 113) #[] #[]])
  go_enter Tryz.func80, Tryz.ntmps80
  go_wp2_with fail
  go_ret
  exact ⟨_, rfl, ⟨_, _, rfl, fun _ _ => by kernel_rfl, fun w' hg => source1_none x hx 0 _ w' (HR.out.grown hg (by simp)) fun w'' hg' => none_c x hx w''⟩, gr_alloc (gr_refl _ _) _⟩
theorem pair_imm (x : Nat) (hx : x < 4294967296) (n : Int) (v : Value) (w : World) (h : IsImm w v x n) :
    Calls Tryz.prog 82 #[v] w (GivesF w x (.agg (insn 0 (0, par x n)))) := by
  have hmf : ∀ (fn : Fn) (first cap : Array Value) (w : World), (Instr.makeFunc fn first cap).run Tryz.prog w = .ok (.func fn first cap) w := fun _ _ _ _ => rfl
  obtain ⟨p, rfl, hv⟩ := h
  have HV := Lib.hid hv
  have HR := Lib.hid (Row.fresh w 81 [.func (.func 102) #[] #[p]])
  clear hv
  go_enter Tryz.func82, Tryz.ntmps82
  go_wp2_with fail
  go_ret
  exact ⟨_, rfl, ⟨_, _, rfl, fun _ _ => by kernel_rfl, fun w' hg => pair1_imm x hx n _ p w' (HR.out.grown hg (by simp)) fun w'' hg' => HV.out w'' (gr_trans (gr_alloc (gr_refl _ _) _) (gr_trans hg hg'))⟩, gr_alloc (gr_refl _ _) _⟩
theorem pair_none (x : Nat) (hx : x < 4294967296) (w : World) :
    Calls Tryz.prog 82 #[.func (.func 113) #[] #[]] w (GivesF w x (.agg (insn 0 (0, par x 0)))) := by
  have hmf : ∀ (fn : Fn) (first cap : Array Value) (w : World), (Instr.makeFunc fn first cap).run Tryz.prog w = .ok (.func fn first cap) w := fun _ _ _ _ => rfl
  have HR := Lib.hid (Row.fresh w 81 [.func (.func 113) #[] #[]])
  go_enter Tryz.func82, Tryz.ntmps82
  go_wp2_with fail
  go_ret
  exact ⟨_, rfl, ⟨_, _, rfl, fun _ _ => by kernel_rfl, fun w' hg => pair1_none x hx 0 _ w' (HR.out.grown hg (by simp)) fun w'' hg' => none_c x hx w''⟩, gr_alloc (gr_refl _ _) _⟩
theorem bare_f (x : Nat) (hx : x < 4294967296) (w : World) : Fun w (.func (.func 91) #[] #[]) x (.agg (insn 0 (0, bar))) :=
  ⟨_, _, rfl, fun _ _ => by kernel_rfl, fun w' _ => bare_c x hx w'⟩
theorem three_f (x : Nat) (hx : x < 4294967296) (w : World) : Fun w (.func (.func 88) #[] #[]) x (.agg (insn 0 (0, thr x))) :=
  ⟨_, _, rfl, fun _ _ => by kernel_rfl, fun w' _ => three_c x hx w'⟩
end Go.Proofs.YtpbeamnogfjagaaGreatDoor
