/-
  What package pte's functions answer: numbers, rules, and what rules say together: contracts over the program's translation.
  Conditions: the arguments are numbers of their kinds.
-/
import Derived.Test.YtkfmcbhoendocaaProg
import Derived.Test.YtkfmcbhoendocaaLayP
import Derived.Test.YtkfmcbhoendocaaRamM
import Derived.Lib.Hide
import Derived.BigQuiet
import Derived.Laws.Shifts
namespace Go.Proofs.Ytkfmcbhoendocaa
open Go Go.RowKit W M A P
set_option linter.unusedVariables false

theorem pret_int {k : IntKind} {a b : Int} (h : a = b) : Ending.returned (.int k a) = .returned (.int k b) := by rw [h]
theorem pret_boo {a b : Bool} (h : a = b) : Ending.returned (.bool a) = .returned (.bool b) := by rw [h]

theorem low_mask (x : Int) (k : Nat) (hk : k ≤ 63) (hx : B64 x) : bits .and .u64 x (IntKind.u64.wrap (IntKind.u64.wrap (2 ^ k) - 1)) = x % 2 ^ k := by
  have h1 : (2 : Int) ^ k ≤ 2 ^ 63 := pow_le k 63 hk
  have h0 := pow_pos' k
  rw [u64_eq, u64_eq, show ((2 : Int) ^ k % 18446744073709551616 - 1) % 18446744073709551616 = 2 ^ k - 1 by omega, aLow x k hk hx]
set_option maxHeartbeats 400000 in
theorem low_c (x : Int) (k : Nat) (p : Int) (hx : B64 x) (hk : k ≤ 63) (hp : (2 : Int) ^ k = p) (w : World) :
    Calls Try.prog 101 #[.int .u64 x, .int .i64 k] w fun e w' => e = .returned (.int .u64 (x % p)) ∧ w = w' := by
  subst hp
  have HL := Lib.hid (low_mask x k hk hx)
  unfold B64 at hx
  go_enter Try.func101, Try.ntmps101
  go_wp2_with fail
  go_ret
  exact ⟨pret_int HL.out, rfl⟩
theorem known_c (n : Int) (hn : -9223372036854775808 ≤ n ∧ n ≤ 9223372036854775807) (w : World) :
    Calls Try.prog 100 #[.int .i64 n] w fun e w' => e = .returned (.bool (knownV n)) ∧ w = w' := by
  by_cases h1 : 0 ≤ n
  · by_cases h2 : n < 3
    · rw [show knownV n = true by unfold knownV; rw [decide_eq_true_eq]; omega]
      go_enter Try.func100, Try.ntmps100
      go_wp2_with fail
      go_ret
      exact ⟨rfl, rfl⟩
    · rw [show knownV n = false by unfold knownV; rw [decide_eq_false_iff_not]; omega]
      go_enter Try.func100, Try.ntmps100
      go_wp2_with fail
      go_ret
      exact ⟨rfl, rfl⟩
  · rw [show knownV n = false by unfold knownV; rw [decide_eq_false_iff_not]; omega]
    go_enter Try.func100, Try.ntmps100
    go_wp2_with fail
    go_ret
    exact ⟨rfl, rfl⟩
theorem Page_c (e : Int) (he : B64 e) (w : World) :
    Calls Try.prog 98 #[.int .u64 e] w fun r w' => r = .returned (.int .u64 (pageV e)) ∧ w = w' := by
  have hd : B64 (e / 1024) := by unfold B64 at *; omega
  unfold B64 at he
  go_enter Try.func98, Try.ntmps98
  go_wp2_with fail
  refine (low_c (e / 1024) 44 17592186044416 hd (by omega) (by decide) _).mono ?_
  rintro r w' ⟨rfl, rfl⟩
  go_wp2_with fail
  go_ret
  exact ⟨rfl, rfl⟩
theorem or_1024 {a b : Int} (ha : 0 ≤ a ∧ a ≤ 17592186044415) (hb : 0 ≤ b ∧ b ≤ 1023) : bits .or .u64 (a * 1024) b = a * 1024 + b := by
  obtain ⟨x, rfl⟩ : ∃ n : Nat, a = n := ⟨a.toNat, by omega⟩
  obtain ⟨y, rfl⟩ : ∃ n : Nat, b = n := ⟨b.toNat, by omega⟩
  have h := orV_nat (x * 1024) y (by omega) (by omega)
  unfold orV at h
  have k : 2 ^ 10 * x + y = 2 ^ 10 * x ||| y := Nat.two_pow_add_eq_or_of_lt (by omega) x
  rw [show (x : Int) * 1024 = ((x * 1024 : Nat) : Int) by omega, h, Nat.mul_comm x 1024, show 1024 * x ||| y = 2 ^ 10 * x ||| y from rfl, ← k]
  omega

/-! ### Rules -/
/-- The function can be called by its number. -/
def POpens (k : Nat) : Prop := ∀ args W, (callFunc k args).run Try.prog W = .ok (.enter k args) W
/-- The value is a function of an entry that, called in any world that has grown from here, answers as p does. -/
def Rule (w : World) (v : Value) (p : Int → Bool) : Prop :=
  ∃ k cap, v = .func (.func k) #[] cap ∧ POpens k ∧ ∀ w', w.grownBy w' none → ∀ e, B64 e →
    Calls Try.prog k (#[.int .u64 e] ++ cap) w' fun r w'' => r = .returned (.bool (p e)) ∧ w'.grownBy w'' none
theorem Rule.grown {w w' : World} {v : Value} {p : Int → Bool} (h : Rule w v p) (hg : w.grownBy w' none) : Rule w' v p := by
  obtain ⟨k, cap, h1, hc, h2⟩ := h
  exact ⟨k, cap, h1, hc, fun w'' hg' => h2 w'' (gr_trans hg hg')⟩
/-- A call that hands back such a function. -/
def GivesR (w : World) (p : Int → Bool) (r : Ending) (w' : World) : Prop := ∃ v, r = .returned v ∧ Rule w' v p ∧ w.grownBy w' none
def allP (m : Int) (e : Int) : Bool := decide (bits .and .u64 e m = m)
def someP (m : Int) (e : Int) : Bool := !decide (bits .and .u64 e m = 0)
def noneP (m : Int) (e : Int) : Bool := decide (bits .and .u64 e m = 0)
theorem all1_c (m : Int) (hm : B64 m) (e : Int) (he : B64 e) (b : Nat) (w : World) (h : Row w b 22 [.int .u64 m]) :
    Calls Try.prog 133 #[.int .u64 e, .pointer (some ⟨b, 0, none⟩)] w fun r w' => r = .returned (.bool (allP m e)) ∧ w.grownBy w' none := by
  have c := h.cell 0
  simp only [List.getElem?_cons_zero] at c
  unfold B64 at hm he
  go_enter Try.func133, Try.ntmps133
  go_wp2_with fail
  go_ret
  exact ⟨rfl, gr_refl _ _⟩
theorem some1_c (m : Int) (hm : B64 m) (e : Int) (he : B64 e) (b : Nat) (w : World) (h : Row w b 22 [.int .u64 m]) :
    Calls Try.prog 139 #[.int .u64 e, .pointer (some ⟨b, 0, none⟩)] w fun r w' => r = .returned (.bool (someP m e)) ∧ w.grownBy w' none := by
  have c := h.cell 0
  simp only [List.getElem?_cons_zero] at c
  unfold B64 at hm he
  go_enter Try.func139, Try.ntmps139
  go_wp2_with fail
  go_ret
  exact ⟨rfl, gr_refl _ _⟩
theorem none1_c (m : Int) (hm : B64 m) (e : Int) (he : B64 e) (b : Nat) (w : World) (h : Row w b 22 [.int .u64 m]) :
    Calls Try.prog 140 #[.int .u64 e, .pointer (some ⟨b, 0, none⟩)] w fun r w' => r = .returned (.bool (noneP m e)) ∧ w.grownBy w' none := by
  have c := h.cell 0
  simp only [List.getElem?_cons_zero] at c
  unfold B64 at hm he
  go_enter Try.func140, Try.ntmps140
  go_wp2_with fail
  go_ret
  exact ⟨rfl, gr_refl _ _⟩
theorem always_c (e : Int) (he : B64 e) (w : World) : Calls Try.prog 135 #[.int .u64 e] w fun r w' => r = .returned (.bool true) ∧ w.grownBy w' none := by
  go_enter Try.func135, Try.ntmps135
  go_wp2_with fail
  go_ret
  exact ⟨rfl, gr_refl _ _⟩
theorem never_c (e : Int) (he : B64 e) (w : World) : Calls Try.prog 134 #[.int .u64 e] w fun r w' => r = .returned (.bool false) ∧ w.grownBy w' none := by
  go_enter Try.func134, Try.ntmps134
  go_wp2_with fail
  go_ret
  exact ⟨rfl, gr_refl _ _⟩
theorem always_r (w : World) : Rule w (.func (.func 135) #[] #[]) (fun _ => true) := ⟨_, _, rfl, fun _ _ => by kernel_rfl, fun w' _ e he => always_c e he w'⟩
theorem never_r (w : World) : Rule w (.func (.func 134) #[] #[]) (fun _ => false) := ⟨_, _, rfl, fun _ _ => by kernel_rfl, fun w' _ e he => never_c e he w'⟩
theorem all_r (m : Int) (hm : B64 m) (w : World) : Calls Try.prog 92 #[.int .u64 m] w (GivesR w (allP m)) := by
  have hmf : ∀ (fn : Fn) (first cap : Array Value) (w : World), (Instr.makeFunc fn first cap).run Try.prog w = .ok (.func fn first cap) w := fun _ _ _ _ => rfl
  go_enter Try.func92, Try.ntmps92
  go_wp2_with fail
  go_ret
  exact ⟨_, rfl, ⟨_, _, rfl, fun _ _ => by kernel_rfl, fun w' hg e he => all1_c m hm e he _ w' ((Row.fresh w 22 [.int .u64 m]).grown hg (by simp))⟩, gr_alloc (gr_refl _ _) _⟩
theorem some_r (m : Int) (hm : B64 m) (w : World) : Calls Try.prog 132 #[.int .u64 m] w (GivesR w (someP m)) := by
  have hmf : ∀ (fn : Fn) (first cap : Array Value) (w : World), (Instr.makeFunc fn first cap).run Try.prog w = .ok (.func fn first cap) w := fun _ _ _ _ => rfl
  go_enter Try.func132, Try.ntmps132
  go_wp2_with fail
  go_ret
  exact ⟨_, rfl, ⟨_, _, rfl, fun _ _ => by kernel_rfl, fun w' hg e he => some1_c m hm e he _ w' ((Row.fresh w 22 [.int .u64 m]).grown hg (by simp))⟩, gr_alloc (gr_refl _ _) _⟩
theorem none_r (m : Int) (hm : B64 m) (w : World) : Calls Try.prog 136 #[.int .u64 m] w (GivesR w (noneP m)) := by
  have hmf : ∀ (fn : Fn) (first cap : Array Value) (w : World), (Instr.makeFunc fn first cap).run Try.prog w = .ok (.func fn first cap) w := fun _ _ _ _ => rfl
  go_enter Try.func136, Try.ntmps136
  go_wp2_with fail
  go_ret
  exact ⟨_, rfl, ⟨_, _, rfl, fun _ _ => by kernel_rfl, fun w' hg e he => none1_c m hm e he _ w' ((Row.fresh w 22 [.int .u64 m]).grown hg (by simp))⟩, gr_alloc (gr_refl _ _) _⟩
end Go.Proofs.Ytkfmcbhoendocaa
