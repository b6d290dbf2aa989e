/-
  What package pte's functions answer: numbers, rules, and what rules say together: contracts over the program's translation.
  What an entry is, and what may be done by it: contracts over the program's translation.
  Leaves, tables, what may be done, addresses: contracts over the program's translation.
  What may be done by an entry, and which address it makes: contracts over the program's translation.
  Conditions: each part's own: the arguments are numbers of their kinds; the tables hold what the program's text lays.
-/
import Derived.Test.YtkfmcbhoendocaaProg
import Derived.Test.YtkfmcbhoendocaaLayP
import Derived.Test.YtkfmcbhoendocaaRamM
import Derived.Lib.Hide
import Derived.BigQuiet
import Derived.Laws.Shifts
section
namespace Go.Proofs.Ytkfmcbhoendocaa
open Go Go.RowKit W M A P
set_option linter.unusedVariables false

theorem pret_int {k : IntKind} {a b : Int} (h : a = b) : Ending.returned (.int k a) = .returned (.int k b) := by rw [h]
theorem pret_boo {a b : Bool} (h : a = b) : Ending.returned (.bool a) = .returned (.bool b) := by rw [h]

theorem low_mask (x : Int) (k : Nat) (hk : k ≤ 63) (hx : B64 x) : bits .and .u64 x (IntKind.u64.wrap (IntKind.u64.wrap (2 ^ k) - 1)) = x % 2 ^ k := by
  have h1 : (2 : Int) ^ k ≤ 2 ^ 63 := pow_le k 63 hk
  have h0 := pow_pos' k
  rw [u64_eq, u64_eq, show ((2 : Int) ^ k % 18446744073709551616 - 1) % 18446744073709551616 = 2 ^ k - 1 by omega, aLow x k hk hx]
set_option maxHeartbeats 400000 in
theorem low_c (x : Int) (k : Nat) (p : Int) (hx : B64 x) (hk : k ≤ 63) (hp : (2 : Int) ^ k = p) (w : World) :
    Calls Try.prog 101 #[.int .u64 x, .int .i64 k] w fun e w' => e = .returned (.int .u64 (x % p)) ∧ w = w' := by
  subst hp
  have HL := Lib.hid (low_mask x k hk hx)
  unfold B64 at hx
  go_enter Try.func101, Try.ntmps101
  go_wp2_with fail
  go_ret
  exact ⟨pret_int HL.out, rfl⟩
theorem known_c (n : Int) (hn : -9223372036854775808 ≤ n ∧ n ≤ 9223372036854775807) (w : World) :
    Calls Try.prog 100 #[.int .i64 n] w fun e w' => e = .returned (.bool (knownV n)) ∧ w = w' := by
  by_cases h1 : 0 ≤ n
  · by_cases h2 : n < 3
    · rw [show knownV n = true by unfold knownV; rw [decide_eq_true_eq]; omega]
      go_enter Try.func100, Try.ntmps100
      go_wp2_with fail
      go_ret
      exact ⟨rfl, rfl⟩
    · rw [show knownV n = false by unfold knownV; rw [decide_eq_false_iff_not]; omega]
      go_enter Try.func100, Try.ntmps100
      go_wp2_with fail
      go_ret
      exact ⟨rfl, rfl⟩
  · rw [show knownV n = false by unfold knownV; rw [decide_eq_false_iff_not]; omega]
    go_enter Try.func100, Try.ntmps100
    go_wp2_with fail
    go_ret
    exact ⟨rfl, rfl⟩
theorem Page_c (e : Int) (he : B64 e) (w : World) :
    Calls Try.prog 98 #[.int .u64 e] w fun r w' => r = .returned (.int .u64 (pageV e)) ∧ w = w' := by
  have hd : B64 (e / 1024) := by unfold B64 at *; omega
  unfold B64 at he
  go_enter Try.func98, Try.ntmps98
  go_wp2_with fail
  refine (low_c (e / 1024) 44 17592186044416 hd (by omega) (by decide) _).mono ?_
  rintro r w' ⟨rfl, rfl⟩
  go_wp2_with fail
  go_ret
  exact ⟨rfl, rfl⟩
theorem or_1024 {a b : Int} (ha : 0 ≤ a ∧ a ≤ 17592186044415) (hb : 0 ≤ b ∧ b ≤ 1023) : bits .or .u64 (a * 1024) b = a * 1024 + b := by
  obtain ⟨x, rfl⟩ : ∃ n : Nat, a = n := ⟨a.toNat, by omega⟩
  obtain ⟨y, rfl⟩ : ∃ n : Nat, b = n := ⟨b.toNat, by omega⟩
  have h := orV_nat (x * 1024) y (by omega) (by omega)
  unfold orV at h
  have k : 2 ^ 10 * x + y = 2 ^ 10 * x ||| y := Nat.two_pow_add_eq_or_of_lt (by omega) x
  rw [show (x : Int) * 1024 = ((x * 1024 : Nat) : Int) by omega, h, Nat.mul_comm x 1024, show 1024 * x ||| y = 2 ^ 10 * x ||| y from rfl, ← k]
  omega

/-! ### Rules -/
/-- The function can be called by its number. -/
def POpens (k : Nat) : Prop := ∀ args W, (callFunc k args).run Try.prog W = .ok (.enter k args) W
/-- The value is a function of an entry that, called in any world that has grown from here, answers as p does. -/
def Rule (w : World) (v : Value) (p : Int → Bool) : Prop :=
  ∃ k cap, v = .func (.func k) #[] cap ∧ POpens k ∧ ∀ w', w.grownBy w' none → ∀ e, B64 e →
    Calls Try.prog k (#[.int .u64 e] ++ cap) w' fun r w'' => r = .returned (.bool (p e)) ∧ w'.grownBy w'' none
theorem Rule.grown {w w' : World} {v : Value} {p : Int → Bool} (h : Rule w v p) (hg : w.grownBy w' none) : Rule w' v p := by
  obtain ⟨k, cap, h1, hc, h2⟩ := h
  exact ⟨k, cap, h1, hc, fun w'' hg' => h2 w'' (gr_trans hg hg')⟩
/-- A call that hands back such a function. -/
def GivesR (w : World) (p : Int → Bool) (r : Ending) (w' : World) : Prop := ∃ v, r = .returned v ∧ Rule w' v p ∧ w.grownBy w' none
def allP (m : Int) (e : Int) : Bool := decide (bits .and .u64 e m = m)
def someP (m : Int) (e : Int) : Bool := !decide (bits .and .u64 e m = 0)
def noneP (m : Int) (e : Int) : Bool := decide (bits .and .u64 e m = 0)
theorem all1_c (m : Int) (hm : B64 m) (e : Int) (he : B64 e) (b : Nat) (w : World) (h : Row w b 22 [.int .u64 m]) :
    Calls Try.prog 133 #[.int .u64 e, .pointer (some ⟨b, 0, none⟩)] w fun r w' => r = .returned (.bool (allP m e)) ∧ w.grownBy w' none := by
  have c := h.cell 0
  simp only [List.getElem?_cons_zero] at c
  unfold B64 at hm he
  go_enter Try.func133, Try.ntmps133
  go_wp2_with fail
  go_ret
  exact ⟨rfl, gr_refl _ _⟩
theorem some1_c (m : Int) (hm : B64 m) (e : Int) (he : B64 e) (b : Nat) (w : World) (h : Row w b 22 [.int .u64 m]) :
    Calls Try.prog 139 #[.int .u64 e, .pointer (some ⟨b, 0, none⟩)] w fun r w' => r = .returned (.bool (someP m e)) ∧ w.grownBy w' none := by
  have c := h.cell 0
  simp only [List.getElem?_cons_zero] at c
  unfold B64 at hm he
  go_enter Try.func139, Try.ntmps139
  go_wp2_with fail
  go_ret
  exact ⟨rfl, gr_refl _ _⟩
theorem none1_c (m : Int) (hm : B64 m) (e : Int) (he : B64 e) (b : Nat) (w : World) (h : Row w b 22 [.int .u64 m]) :
    Calls Try.prog 140 #[.int .u64 e, .pointer (some ⟨b, 0, none⟩)] w fun r w' => r = .returned (.bool (noneP m e)) ∧ w.grownBy w' none := by
  have c := h.cell 0
  simp only [List.getElem?_cons_zero] at c
  unfold B64 at hm he
  go_enter Try.func140, Try.ntmps140
  go_wp2_with fail
  go_ret
  exact ⟨rfl, gr_refl _ _⟩
theorem always_c (e : Int) (he : B64 e) (w : World) : Calls Try.prog 135 #[.int .u64 e] w fun r w' => r = .returned (.bool true) ∧ w.grownBy w' none := by
  go_enter Try.func135, Try.ntmps135
  go_wp2_with fail
  go_ret
  exact ⟨rfl, gr_refl _ _⟩
theorem never_c (e : Int) (he : B64 e) (w : World) : Calls Try.prog 134 #[.int .u64 e] w fun r w' => r = .returned (.bool false) ∧ w.grownBy w' none := by
  go_enter Try.func134, Try.ntmps134
  go_wp2_with fail
  go_ret
  exact ⟨rfl, gr_refl _ _⟩
theorem always_r (w : World) : Rule w (.func (.func 135) #[] #[]) (fun _ => true) := ⟨_, _, rfl, fun _ _ => by kernel_rfl, fun w' _ e he => always_c e he w'⟩
theorem never_r (w : World) : Rule w (.func (.func 134) #[] #[]) (fun _ => false) := ⟨_, _, rfl, fun _ _ => by kernel_rfl, fun w' _ e he => never_c e he w'⟩
theorem all_r (m : Int) (hm : B64 m) (w : World) : Calls Try.prog 92 #[.int .u64 m] w (GivesR w (allP m)) := by
  have hmf : ∀ (fn : Fn) (first cap : Array Value) (w : World), (Instr.makeFunc fn first cap).run Try.prog w = .ok (.func fn first cap) w := fun _ _ _ _ => rfl
  go_enter Try.func92, Try.ntmps92
  go_wp2_with fail
  go_ret
  exact ⟨_, rfl, ⟨_, _, rfl, fun _ _ => by kernel_rfl, fun w' hg e he => all1_c m hm e he _ w' ((Row.fresh w 22 [.int .u64 m]).grown hg (by simp))⟩, gr_alloc (gr_refl _ _) _⟩
theorem some_r (m : Int) (hm : B64 m) (w : World) : Calls Try.prog 132 #[.int .u64 m] w (GivesR w (someP m)) := by
  have hmf : ∀ (fn : Fn) (first cap : Array Value) (w : World), (Instr.makeFunc fn first cap).run Try.prog w = .ok (.func fn first cap) w := fun _ _ _ _ => rfl
  go_enter Try.func132, Try.ntmps132
  go_wp2_with fail
  go_ret
  exact ⟨_, rfl, ⟨_, _, rfl, fun _ _ => by kernel_rfl, fun w' hg e he => some1_c m hm e he _ w' ((Row.fresh w 22 [.int .u64 m]).grown hg (by simp))⟩, gr_alloc (gr_refl _ _) _⟩
theorem none_r (m : Int) (hm : B64 m) (w : World) : Calls Try.prog 136 #[.int .u64 m] w (GivesR w (noneP m)) := by
  have hmf : ∀ (fn : Fn) (first cap : Array Value) (w : World), (Instr.makeFunc fn first cap).run Try.prog w = .ok (.func fn first cap) w := fun _ _ _ _ => rfl
  go_enter Try.func136, Try.ntmps136
  go_wp2_with fail
  go_ret
  exact ⟨_, rfl, ⟨_, _, rfl, fun _ _ => by kernel_rfl, fun w' hg e he => none1_c m hm e he _ w' ((Row.fresh w 22 [.int .u64 m]).grown hg (by simp))⟩, gr_alloc (gr_refl _ _) _⟩
end Go.Proofs.Ytkfmcbhoendocaa
end

section
namespace Go.Proofs.Ytkfmcbhoendocaa
open Go Go.RowKit W M A P
set_option linter.unusedVariables false

theorem Rule.calls {w : World} {k : FuncId} {cap : Array Value} {p : Int → Bool} (h : Rule w (.func (.func k) #[] cap) p) (w' : World) (hg : w.grownBy w' none) (e : Int) (he : B64 e) :
    Calls Try.prog k (#[.int .u64 e] ++ cap) w' fun r w'' => r = .returned (.bool (p e)) ∧ w'.grownBy w'' none := by
  obtain ⟨k', c', h1, -, h2⟩ := h
  injection h1 with h1 _ h3
  injection h1 with h1
  subst h1; subst h3
  exact h2 w' hg e he
abbrev RL := List (Value × (Int → Bool))
def okL (L : RL) (e : Int) : Bool := L.all fun x => x.2 e
theorem row_v {L : RL} {k : Nat} {x : Value × (Int → Bool)} (h : L[k]? = some x) : (L.map (·.1))[k]? = some x.1 := by rw [List.getElem?_map, h]; rfl
set_option maxHeartbeats 400000 in
theorem each_c (L : RL) (e : Int) (he : B64 e) (hl : L.length ≤ 8) (g : Nat) (w : World) (hR : Row w g 164 (L.map (·.1))) (hr : ∀ x ∈ L, Rule w x.1 x.2) :
    Calls Try.prog 90 #[.int .u64 e, .slice (some ⟨g, 0, none⟩) L.length L.length] w fun r w' => r = .returned (.bool (okL L e)) ∧ w.grownBy w' none := by
  go_enter Try.func90, Try.ntmps90
  go_wp2_with fail
  go_loopw [9] (fun i wr => ∃ k : Nat, k ≤ L.length ∧ i = .int .i64 k ∧ okL L e = okL (L.drop k) e ∧ w.grownBy wr none) (fun i _ => L.length - (intOf i).toNat)
  case atStart => exact ⟨0, Nat.zero_le _, rfl, rfl, gr_refl _ _⟩
  case round =>
    obtain ⟨k, hk, rfl, hall, hG⟩ := hrel
    by_cases hlt : k < L.length
    · obtain ⟨x, M, hd⟩ : ∃ x M, L.drop k = x :: M := ⟨L[k], L.drop (k + 1), List.drop_eq_getElem_cons hlt⟩
      have hx : L[k]? = some x := by rw [← List.head?_drop, hd]; rfl
      have hM : L.drop (k + 1) = M := by rw [← List.tail_drop, hd]; rfl
      have hmem : x ∈ L := List.mem_of_getElem? hx
      have c1 := (hR.grown hG (by simp)).cell k
      rw [row_v hx] at c1
      obtain ⟨f, cap, hv, hcf, hc⟩ := (hr x hmem).grown hG
      rw [hv] at c1
      unfold POpens at hcf
      have HC := Lib.hid (hc wr (gr_refl _ _) e he)
      rw [hd] at hall
      have HA := Lib.hid hall
      have HM := Lib.hid hM
      have GG := Lib.hid hG
      clear hc hv hmem hx hd hall hM hG hr
      cases hb : x.2 e with
      | true =>
        rw [hb] at HC
        go_wp2_with fail
        refine HC.out.mono ?_
        rintro r w' ⟨rfl, hG⟩
        go_wp2_with fail
        go_round
        case rel =>
          refine ⟨k + 1, by omega, by go_num, ?_, gr_trans GG.out hG⟩
          rw [HA.out, HM.out]
          simp [okL, hb]
        case measure => simp [intOf]; omega
      | false =>
        rw [hb] at HC
        go_wp2_with fail
        refine HC.out.mono ?_
        rintro r w' ⟨rfl, hG⟩
        go_wp2_with fail
        go_ret
        refine ⟨pret_boo ?_, gr_trans GG.out hG⟩
        rw [HA.out]
        simp [okL, hb]
    · obtain rfl : k = L.length := by omega
      rw [List.drop_length] at hall
      have HA := Lib.hid hall
      clear hall
      go_wp2_with fail
      go_ret
      exact ⟨pret_boo (by rw [HA.out]; rfl), hG⟩

/-! ### What rules ask for, in bits -/
theorem all_1 {e : Int} (he : B64 e) : allP 1 e = bt e 1 := by unfold allP bt; rw [a1 e he]; refine decide_eq_decide.2 ?_; omega
theorem all_2 {e : Int} (he : B64 e) : allP 2 e = bt e 2 := by unfold allP bt; rw [a2 e he]; refine decide_eq_decide.2 ?_; omega
theorem all_8 {e : Int} (he : B64 e) : allP 8 e = bt e 8 := by unfold allP bt; rw [a8 e he]; refine decide_eq_decide.2 ?_; omega
theorem all_16 {e : Int} (he : B64 e) : allP 16 e = bt e 16 := by unfold allP bt; rw [a16 e he]; refine decide_eq_decide.2 ?_; omega
theorem all_64 {e : Int} (he : B64 e) : allP 64 e = bt e 64 := by unfold allP bt; rw [a64 e he]; refine decide_eq_decide.2 ?_; omega
theorem all_132 {e : Int} (he : B64 e) : allP 132 e = (bt e 4 && bt e 128) := by
  unfold allP bt; rw [a132 e he, ← Bool.decide_and]; refine decide_eq_decide.2 ?_; omega
theorem some_2 {e : Int} (he : B64 e) : someP 2 e = bt e 2 := by unfold someP bt; rw [a2 e he, ← decide_not]; refine decide_eq_decide.2 ?_; omega
theorem some_4 {e : Int} (he : B64 e) : someP 4 e = bt e 4 := by unfold someP bt; rw [a4 e he, ← decide_not]; refine decide_eq_decide.2 ?_; omega
theorem some_10 {e : Int} (he : B64 e) : someP 10 e = (bt e 2 || bt e 8) := by
  unfold someP bt; rw [a10 e he, ← decide_not, ← Bool.decide_or]; refine decide_eq_decide.2 ?_; omega
theorem none_16 {e : Int} (he : B64 e) : noneP 16 e = !bt e 16 := by unfold noneP bt; rw [a16 e he, ← decide_not]; refine decide_eq_decide.2 ?_; omega
theorem none_222 {e : Int} (he : B64 e) : noneP 222 e = (!bt e 2 && !bt e 4 && !bt e 8 && !bt e 16 && !bt e 64 && !bt e 128) := by
  unfold noneP bt; rw [a222 e he]
  simp only [← decide_not, ← Bool.decide_and]
  refine decide_eq_decide.2 ?_; omega
theorem none_high {e : Int} (he : B64 e) : noneP 18428729675200069632 e = decide (e / 18014398509481984 = 0) := by
  unfold noneP; rw [aHigh e he]; refine decide_eq_decide.2 ?_; unfold B64 at he; omega

theorem valid_eq {e : Int} (he : B64 e) : validV e = (allP 1 e && noneP 18428729675200069632 e && (!someP 4 e || someP 2 e)) := by
  rw [all_1 he, none_high he, some_4 he, some_2 he]
  unfold validV
  generalize bt e 1 = a
  generalize bt e 2 = b
  generalize bt e 4 = c
  generalize decide (e / 18014398509481984 = 0) = d
  revert a b c d; decide
set_option maxHeartbeats 1000000 in
theorem Valid_c (e : Int) (he : B64 e) (w : World) :
    Calls Try.prog 131 #[.int .u64 e] w fun r w' => r = .returned (.bool (validV e)) ∧ w.grownBy w' none := by
  rw [valid_eq he]
  have HO : Hid (∀ v1 v2, okL [(v1, allP 1), (v2, noneP 18428729675200069632)] e = (allP 1 e && noneP 18428729675200069632 e)) := Lib.hid (by intro v1 v2; simp [okL])
  generalize (allP 1 e && noneP 18428729675200069632 e) = A at *
  obtain ⟨B, hB⟩ : ∃ B, someP 4 e = B := ⟨_, rfl⟩
  obtain ⟨C, hC⟩ : ∃ C, someP 2 e = C := ⟨_, rfl⟩
  rw [hB, hC]
  have HB := Lib.hid hB
  have HC := Lib.hid hC
  have HE := Lib.hid he
  clear hB hC he
  go_enter Try.func131, Try.ntmps131
  go_wp2_with fail
  refine (some_r 4 (by unfold B64; omega) _).mono ?_
  rintro r w1 ⟨v4, rfl, R4, G1⟩
  obtain ⟨k4, c4, e4, o4, -⟩ := id R4
  subst e4
  go_wp2_with fail
  refine (some_r 2 (by unfold B64; omega) _).mono ?_
  rintro r w2 ⟨v2, rfl, R2, G2⟩
  obtain ⟨k2, c2, e2, o2, -⟩ := id R2
  subst e2
  go_wp2_with fail
  refine (all_r 1 (by unfold B64; omega) _).mono ?_
  rintro r w3 ⟨v1, rfl, R1, G3⟩
  obtain ⟨k1, c1, e1, -, -⟩ := id R1
  subst e1
  go_wp2_with fail
  refine (none_r 18428729675200069632 (by unfold B64; omega) _).mono ?_
  rintro r w4 ⟨vh, rfl, Rh, G4⟩
  obtain ⟨kh, ch, eh, -, -⟩ := id Rh
  subst eh
  have GA := gr_trans (gr_trans (gr_trans G1 G2) G3) G4
  have G24 := gr_trans G3 G4
  have R4' := R4.grown (gr_trans G2 G24)
  have R2' := R2.grown G24
  have R1' := R1.grown G4
  clear R4 R2 R1 G1 G2 G3 G4 G24
  unfold POpens at o4 o2
  go_wp2_with fail
  have hE := each_c [(.func (.func k1) #[] c1, allP 1), (.func (.func kh) #[] ch, noneP 18428729675200069632)] e HE.out (by simp) w4.heap.size _ (Row.fresh w4 164 [.func (.func k1) #[] c1, .func (.func kh) #[] ch]) (by
    intro x hx
    simp only [List.mem_cons, List.not_mem_nil, or_false] at hx
    rcases hx with rfl | rfl
    · exact R1'.grown (gr_alloc (gr_refl _ _) _)
    · exact Rh.grown (gr_alloc (gr_refl _ _) _))
  refine hE.mono ?_
  rintro r w5 ⟨rfl, G5⟩
  rw [HO.out]
  have G6 := gr_trans (gr_alloc (gr_refl _ _) _) G5
  have K4 := Lib.hid ((R4'.grown G6).calls _ (gr_refl _ _) e HE.out)
  have K2 := Lib.hid (fun W hW => (R2'.grown G6).calls W hW e HE.out)
  rw [HB.out] at K4
  rw [HC.out] at K2
  have GB := gr_trans GA G6
  clear hE G5 G6 GA R1' Rh R4' R2'
  cases A with
  | false =>
    go_wp2_with fail
    go_ret
    exact ⟨rfl, GB⟩
  | true =>
    cases B with
    | false =>
      go_wp2_with fail
      refine K4.out.mono ?_
      rintro r w6 ⟨rfl, G7⟩
      go_wp2_with fail
      go_ret
      exact ⟨rfl, gr_trans GB G7⟩
    | true =>
      go_wp2_with fail
      refine K4.out.mono ?_
      rintro r w6 ⟨rfl, G7⟩
      go_wp2_with fail
      refine (K2.out _ G7).mono ?_
      rintro r w7 ⟨rfl, G8⟩
      go_wp2_with fail
      go_ret
      exact ⟨rfl, gr_trans (gr_trans GB G7) G8⟩
end Go.Proofs.Ytkfmcbhoendocaa
end

section
namespace Go.Proofs.Ytkfmcbhoendocaa
open Go Go.RowKit W M A P
set_option linter.unusedVariables false

theorem valid_r (w : World) : Rule w (.func (.func 131) #[] #[]) validV := ⟨_, _, rfl, fun _ _ => by kernel_rfl, fun w' _ e he => Valid_c e he w'⟩
theorem leaf_eq {e : Int} (he : B64 e) : leafV e = (validV e && someP 10 e) := by rw [some_10 he]; rfl
theorem table_eq {e : Int} (he : B64 e) : tableV e = (validV e && noneP 222 e) := by rw [none_222 he]; rfl
set_option maxHeartbeats 1000000 in
theorem Leaf_c (e : Int) (he : B64 e) (w : World) :
    Calls Try.prog 91 #[.int .u64 e] w fun r w' => r = .returned (.bool (leafV e)) ∧ w.grownBy w' none := by
  rw [leaf_eq he]
  have HO : Hid (∀ v1 v2, okL [(v1, validV), (v2, someP 10)] e = (validV e && someP 10 e)) := Lib.hid (by intro v1 v2; simp [okL])
  generalize (validV e && someP 10 e) = A at *
  have HE := Lib.hid he
  clear he
  go_enter Try.func91, Try.ntmps91
  go_wp2_with fail
  refine (some_r 10 (by unfold B64; omega) _).mono ?_
  rintro r w4 ⟨v1, rfl, R1, G4⟩
  obtain ⟨k1, c1, e1, -, -⟩ := id R1
  subst e1
  go_wp2_with fail
  have hE := each_c [(.func (.func 131) #[] #[], validV), (.func (.func k1) #[] c1, someP 10)] e HE.out (by simp) w4.heap.size _ (Row.fresh w4 164 [.func (.func 131) #[] #[], .func (.func k1) #[] c1]) (by
    intro x hx
    simp only [List.mem_cons, List.not_mem_nil, or_false] at hx
    rcases hx with rfl | rfl
    · exact valid_r _
    · exact R1.grown (gr_alloc (gr_refl _ _) _))
  refine hE.mono ?_
  rintro r w5 ⟨rfl, G5⟩
  rw [HO.out]
  have G6 := gr_trans G4 (gr_trans (gr_alloc (gr_refl _ _) _) G5)
  go_wp2_with fail
  go_ret
  exact ⟨rfl, G6⟩
set_option maxHeartbeats 1000000 in
theorem Table_c (e : Int) (he : B64 e) (w : World) :
    Calls Try.prog 97 #[.int .u64 e] w fun r w' => r = .returned (.bool (tableV e)) ∧ w.grownBy w' none := by
  rw [table_eq he]
  have HO : Hid (∀ v1 v2, okL [(v1, validV), (v2, noneP 222)] e = (validV e && noneP 222 e)) := Lib.hid (by intro v1 v2; simp [okL])
  generalize (validV e && noneP 222 e) = A at *
  have HE := Lib.hid he
  clear he
  go_enter Try.func97, Try.ntmps97
  go_wp2_with fail
  refine (none_r 222 (by unfold B64; omega) _).mono ?_
  rintro r w4 ⟨v1, rfl, R1, G4⟩
  obtain ⟨k1, c1, e1, -, -⟩ := id R1
  subst e1
  go_wp2_with fail
  have hE := each_c [(.func (.func 131) #[] #[], validV), (.func (.func k1) #[] c1, noneP 222)] e HE.out (by simp) w4.heap.size _ (Row.fresh w4 164 [.func (.func 131) #[] #[], .func (.func k1) #[] c1]) (by
    intro x hx
    simp only [List.mem_cons, List.not_mem_nil, or_false] at hx
    rcases hx with rfl | rfl
    · exact valid_r _
    · exact R1.grown (gr_alloc (gr_refl _ _) _))
  refine hE.mono ?_
  rintro r w5 ⟨rfl, G5⟩
  rw [HO.out]
  have G6 := gr_trans G4 (gr_trans (gr_alloc (gr_refl _ _) _) G5)
  go_wp2_with fail
  go_ret
  exact ⟨rfl, G6⟩
theorem leaf_r (w : World) : Rule w (.func (.func 91) #[] #[]) leafV := ⟨_, _, rfl, fun _ _ => by kernel_rfl, fun w' _ e he => Leaf_c e he w'⟩

/-! ### By kind, by privilege -/
theorem Rule.as {w : World} {v : Value} {p q : Int → Bool} (h : Rule w v p) (hq : ∀ e, B64 e → p e = q e) : Rule w v q := by
  obtain ⟨k, cap, h1, h2, h3⟩ := h
  exact ⟨k, cap, h1, h2, fun w' hg e he => by rw [← hq e he]; exact h3 w' hg e he⟩
theorem GivesR.as {w : World} {p q : Int → Bool} {r : Ending} {w' : World} (h : GivesR w p r w') (hq : ∀ e, B64 e → p e = q e) : GivesR w q r w' := by
  obtain ⟨v, h1, h2, h3⟩ := h
  exact ⟨v, h1, h2.as hq, h3⟩
def I64 (n : Int) : Prop := -9223372036854775808 ≤ n ∧ n ≤ 9223372036854775807
theorem byKind_c (kind st : Int) (hk : I64 kind) (hs : B64 st) (w : World) :
    Calls Try.prog 93 #[.int .i64 kind, .int .u64 st] w (GivesR w fun e => byKindV e kind st) := by
  have hmf : ∀ (fn : Fn) (first cap : Array Value) (w : World), (Instr.makeFunc fn first cap).run Try.prog w = .ok (.func fn first cap) w := fun _ _ _ _ => rfl
  have hm := aMxr st hs
  have hb : bt st 524288 = decide (st / 524288 % 2 = 1) := rfl
  unfold I64 at hk
  unfold B64 at hs
  by_cases h0 : kind = 0
  · subst h0
    go_enter Try.func93, Try.ntmps93
    go_wp2_with fail
    refine (all_r 8 (by unfold B64; omega) _).mono ?_
    rintro r w1 ⟨v, rfl, R, G⟩
    obtain ⟨k1, c1, e1, -, -⟩ := id R
    subst e1
    go_wp2_with fail
    go_ret
    exact ⟨_, rfl, R.as fun e he => by rw [all_8 he]; rfl, G⟩
  · by_cases h1 : kind = 1
    · subst h1
      by_cases hx : st / 524288 % 2 = 1
      · have hn : bits .and .u64 st 524288 = 524288 := by omega
        go_enter Try.func93, Try.ntmps93
        go_wp2_with fail
        refine (some_r 10 (by unfold B64; omega) _).mono ?_
        rintro r w1 ⟨v, rfl, R, G⟩
        obtain ⟨k1, c1, e1, -, -⟩ := id R
        subst e1
        go_wp2_with fail
        go_ret
        exact ⟨_, rfl, R.as fun e he => by rw [some_10 he]; simp [byKindV, hb, hx], G⟩
      · have hn : bits .and .u64 st 524288 = 0 := by omega
        go_enter Try.func93, Try.ntmps93
        go_wp2_with fail
        refine (all_r 2 (by unfold B64; omega) _).mono ?_
        rintro r w1 ⟨v, rfl, R, G⟩
        obtain ⟨k1, c1, e1, -, -⟩ := id R
        subst e1
        go_wp2_with fail
        go_ret
        exact ⟨_, rfl, R.as fun e he => by rw [all_2 he]; simp [byKindV, hb, hx], G⟩
    · by_cases h2 : kind = 2
      · subst h2
        go_enter Try.func93, Try.ntmps93
        go_wp2_with fail
        refine (all_r 132 (by unfold B64; omega) _).mono ?_
        rintro r w1 ⟨v, rfl, R, G⟩
        obtain ⟨k1, c1, e1, -, -⟩ := id R
        subst e1
        go_wp2_with fail
        go_ret
        exact ⟨_, rfl, R.as fun e he => by rw [all_132 he]; simp [byKindV], G⟩
      · go_enter Try.func93, Try.ntmps93
        go_wp2_with fail
        go_ret
        exact ⟨_, rfl, (never_r _).as fun e he => by simp [byKindV, h0, h1, h2], gr_refl _ _⟩
theorem byPriv_c (kind priv st : Int) (hk : I64 kind) (hp : I64 priv) (hs : B64 st) (w : World) :
    Calls Try.prog 94 #[.int .i64 kind, .int .i64 priv, .int .u64 st] w (GivesR w fun e => byPrivV e kind priv st) := by
  have hmf : ∀ (fn : Fn) (first cap : Array Value) (w : World), (Instr.makeFunc fn first cap).run Try.prog w = .ok (.func fn first cap) w := fun _ _ _ _ => rfl
  have hm := aSum st hs
  have hb : bt st 262144 = decide (st / 262144 % 2 = 1) := rfl
  unfold I64 at hk hp
  unfold B64 at hs
  by_cases h0 : priv = 0
  · subst h0
    go_enter Try.func94, Try.ntmps94
    go_wp2_with fail
    refine (all_r 16 (by unfold B64; omega) _).mono ?_
    rintro r w1 ⟨v, rfl, R, G⟩
    obtain ⟨k1, c1, e1, -, -⟩ := id R
    subst e1
    go_wp2_with fail
    go_ret
    exact ⟨_, rfl, R.as fun e he => by rw [all_16 he]; rfl, G⟩
  · by_cases h1 : priv = 1
    · subst h1
      by_cases hf : kind = 0
      · have hne : (kind != 0) = false := by subst hf; rfl
        go_enter Try.func94, Try.ntmps94
        go_wp2_with fail
        refine (none_r 16 (by unfold B64; omega) _).mono ?_
        rintro r w1 ⟨v, rfl, R, G⟩
        obtain ⟨k1, c1, e1, -, -⟩ := id R
        subst e1
        go_wp2_with fail
        go_ret
        exact ⟨_, rfl, R.as fun e he => by rw [none_16 he]; simp [byPrivV, hf], G⟩
      · have hne : (kind != 0) = true := by simpa using hf
        by_cases hx : st / 262144 % 2 = 1
        · have hn : bits .and .u64 st 262144 = 262144 := by omega
          go_enter Try.func94, Try.ntmps94
          go_wp2_with fail
          go_ret
          exact ⟨_, rfl, (always_r _).as fun e he => by simp [byPrivV, hf, hb, hx], gr_refl _ _⟩
        · have hn : bits .and .u64 st 262144 = 0 := by omega
          go_enter Try.func94, Try.ntmps94
          go_wp2_with fail
          refine (none_r 16 (by unfold B64; omega) _).mono ?_
          rintro r w1 ⟨v, rfl, R, G⟩
          obtain ⟨k1, c1, e1, -, -⟩ := id R
          subst e1
          go_wp2_with fail
          go_ret
          exact ⟨_, rfl, R.as fun e he => by rw [none_16 he]; simp [byPrivV, hf, hb, hx], G⟩
    · go_enter Try.func94, Try.ntmps94
      go_wp2_with fail
      go_ret
      exact ⟨_, rfl, (never_r _).as fun e he => by simp [byPrivV, h0, h1], gr_refl _ _⟩
end Go.Proofs.Ytkfmcbhoendocaa
end

section
namespace Go.Proofs.Ytkfmcbhoendocaa
open Go Go.RowKit W M A P
set_option linter.unusedVariables false

set_option maxHeartbeats 1000000 in
theorem May_c (e kind priv st : Int) (he : B64 e) (hk : I64 kind) (hp : I64 priv) (hs : B64 st) (w : World) :
    Calls Try.prog 56 #[.int .u64 e, .int .i64 kind, .int .i64 priv, .int .u64 st] w fun r w' => r = .returned (.bool (mayV e kind priv st)) ∧ w.grownBy w' none := by
  have HO : Hid (∀ v1 v2 v3 v4, okL [(v1, leafV), (v2, allP 64), (v3, fun e => byKindV e kind st), (v4, fun e => byPrivV e kind priv st)] e = mayV e kind priv st) := Lib.hid (by
    intro v1 v2 v3 v4; unfold mayV; rw [← all_64 he]; simp only [okL, List.all_cons, List.all_nil, Bool.and_true, Bool.and_assoc])
  generalize mayV e kind priv st = A at *
  have HE := Lib.hid he
  have HK := Lib.hid (fun W => byKind_c kind st hk hs W)
  have HP := Lib.hid (fun W => byPriv_c kind priv st hk hp hs W)
  clear he hk hp hs
  go_enter Try.func56, Try.ntmps56
  go_wp2_with fail
  refine (all_r 64 (by unfold B64; omega) _).mono ?_
  rintro r w1 ⟨v1, rfl, R1, G1⟩
  obtain ⟨k1, c1, e1, -, -⟩ := id R1
  subst e1
  go_wp2_with fail
  refine (HK.out _).mono ?_
  rintro r w2 ⟨v2, rfl, R2, G2⟩
  obtain ⟨k2, c2, e2, -, -⟩ := id R2
  subst e2
  go_wp2_with fail
  refine (HP.out _).mono ?_
  rintro r w3 ⟨v3, rfl, R3, G3⟩
  obtain ⟨k3, c3, e3, -, -⟩ := id R3
  subst e3
  have R1' := R1.grown (gr_trans G2 G3)
  have R2' := R2.grown G3
  have GA := gr_trans (gr_trans G1 G2) G3
  clear R1 R2 G1 G2 G3
  go_wp2_with fail
  have hE := each_c [(.func (.func 91) #[] #[], leafV), (.func (.func k1) #[] c1, allP 64), (.func (.func k2) #[] c2, fun e => byKindV e kind st), (.func (.func k3) #[] c3, fun e => byPrivV e kind priv st)] e HE.out (by simp) w3.heap.size _ (Row.fresh w3 164 [.func (.func 91) #[] #[], .func (.func k1) #[] c1, .func (.func k2) #[] c2, .func (.func k3) #[] c3]) (by
    intro x hx
    simp only [List.mem_cons, List.not_mem_nil, or_false] at hx
    rcases hx with rfl | rfl | rfl | rfl
    · exact leaf_r _
    · exact R1'.grown (gr_alloc (gr_refl _ _) _)
    · exact R2'.grown (gr_alloc (gr_refl _ _) _)
    · exact R3.grown (gr_alloc (gr_refl _ _) _))
  refine hE.mono ?_
  rintro r w5 ⟨rfl, G5⟩
  rw [HO.out]
  have G6 := gr_trans GA (gr_trans (gr_alloc (gr_refl _ _) _) G5)
  go_wp2_with fail
  go_ret
  exact ⟨rfl, G6⟩
theorem Canonical_c (va : Int) (hv : B64 va) (w : World) :
    Calls Try.prog 54 #[.int .u64 va] w fun r w' => r = .returned (.bool (canonV va)) ∧ w = w' := by
  unfold B64 at hv
  unfold canonV
  by_cases h1 : va / 274877906944 = 0
  · go_enter Try.func54, Try.ntmps54
    go_wp2_with fail
    go_ret
    exact ⟨pret_boo (by simp [h1]), rfl⟩
  · by_cases h2 : va / 274877906944 = 67108863
    · go_enter Try.func54, Try.ntmps54
      go_wp2_with fail
      go_ret
      exact ⟨pret_boo (by simp [h2]), rfl⟩
    · go_enter Try.func54, Try.ntmps54
      go_wp2_with fail
      go_ret
      exact ⟨pret_boo (by simp [h1, h2]), rfl⟩
theorem known_yes {n : Int} (h : 0 ≤ n ∧ n ≤ 2) : knownV n = true := by unfold knownV; simpa using h
theorem known_no {n : Int} (h : ¬ (0 ≤ n ∧ n ≤ 2)) : knownV n = false := by unfold knownV; simpa using h
theorem Vpn_c (va n : Int) (hv : B64 va) (hn : I64 n) (w : World) :
    Calls Try.prog 96 #[.int .u64 va, .int .i64 n] w fun r w' => r = .returned (.int .u64 (vpnV va n)) ∧ w = w' := by
  by_cases h : 0 ≤ n ∧ n ≤ 2
  · have HK := Lib.hid (known_yes h)
    rcases (show n = 0 ∨ n = 1 ∨ n = 2 by omega) with rfl | rfl | rfl
    · have HL := Lib.hid (fun W => low_c (va / 4096) 9 512 (by unfold B64 at *; omega) (by omega) (by decide) W)
      unfold B64 at hv
      clear h hn
      go_enter Try.func96, Try.ntmps96
      go_wp2_with fail
      refine (known_c 0 (by omega) _).mono ?_
      rintro r w' ⟨rfl, rfl⟩
      rw [HK.out]
      go_wp2_with fail
      refine (HL.out _).mono ?_
      rintro r w' ⟨rfl, rfl⟩
      go_wp2_with fail
      go_ret
      exact ⟨rfl, rfl⟩
    · have HL := Lib.hid (fun W => low_c (va / 2097152) 9 512 (by unfold B64 at *; omega) (by omega) (by decide) W)
      unfold B64 at hv
      clear h hn
      go_enter Try.func96, Try.ntmps96
      go_wp2_with fail
      refine (known_c 1 (by omega) _).mono ?_
      rintro r w' ⟨rfl, rfl⟩
      rw [HK.out]
      go_wp2_with fail
      refine (HL.out _).mono ?_
      rintro r w' ⟨rfl, rfl⟩
      go_wp2_with fail
      go_ret
      exact ⟨rfl, rfl⟩
    · have HL := Lib.hid (fun W => low_c (va / 1073741824) 9 512 (by unfold B64 at *; omega) (by omega) (by decide) W)
      unfold B64 at hv
      clear h hn
      go_enter Try.func96, Try.ntmps96
      go_wp2_with fail
      refine (known_c 2 (by omega) _).mono ?_
      rintro r w' ⟨rfl, rfl⟩
      rw [HK.out]
      go_wp2_with fail
      refine (HL.out _).mono ?_
      rintro r w' ⟨rfl, rfl⟩
      go_wp2_with fail
      go_ret
      exact ⟨rfl, rfl⟩
  · have HK := Lib.hid (known_no h)
    have HZ : Hid (vpnV va n = 0) := Lib.hid (by unfold vpnV; rw [HK.out]; rfl)
    rw [HZ.out]
    have HC := Lib.hid (fun W => known_c n hn W)
    rw [HK.out] at HC
    clear h
    go_enter Try.func96, Try.ntmps96
    go_wp2_with fail
    refine (HC.out _).mono ?_
    rintro r w' ⟨rfl, rfl⟩
    go_wp2_with fail
    go_ret
    exact ⟨rfl, rfl⟩
theorem At_one (e va : Int) (n : Int) (he : B64 e) (hv : B64 va) (h : 0 ≤ n ∧ n ≤ 2) (w : World) :
    Calls Try.prog 59 #[.int .u64 e, .int .u64 va, .int .i64 n] w fun r w' => r = .returned (.int .u64 (atV e va n)) ∧ w = w' := by
  have HK := Lib.hid (known_yes h)
  have HC := Lib.hid (fun W => known_c n (by omega) W)
  have HG := Lib.hid (fun W => Page_c e he W)
  have hp := page_bd he
  rw [HK.out] at HC
  unfold atV
  rw [HK.out, if_pos rfl]
  generalize pageV e = p at *
  rcases (show n = 0 ∨ n = 1 ∨ n = 2 by omega) with rfl | rfl | rfl
  · have HL := Lib.hid (fun W => low_c (p * 4096) 12 4096 (by unfold B64 at *; omega) (by omega) (by decide) W)
    have HM := Lib.hid (fun W => low_c va 12 4096 hv (by omega) (by decide) W)
    unfold B64 at hv he
    clear h
    go_enter Try.func59, Try.ntmps59
    go_wp2_with fail
    refine (HG.out _).mono ?_
    rintro r w' ⟨rfl, rfl⟩
    go_wp2_with fail
    refine (HC.out _).mono ?_
    rintro r w' ⟨rfl, rfl⟩
    go_wp2_with fail
    refine (HL.out _).mono ?_
    rintro r w' ⟨rfl, rfl⟩
    go_wp2_with fail
    refine (HM.out _).mono ?_
    rintro r w' ⟨rfl, rfl⟩
    go_wp2_with fail
    go_ret
    exact ⟨pret_int (by unfold szV; simp only [if_pos]; omega), rfl⟩
  · have HL := Lib.hid (fun W => low_c (p * 4096) 21 2097152 (by unfold B64 at *; omega) (by omega) (by decide) W)
    have HM := Lib.hid (fun W => low_c va 21 2097152 hv (by omega) (by decide) W)
    unfold B64 at hv he
    clear h
    go_enter Try.func59, Try.ntmps59
    go_wp2_with fail
    refine (HG.out _).mono ?_
    rintro r w' ⟨rfl, rfl⟩
    go_wp2_with fail
    refine (HC.out _).mono ?_
    rintro r w' ⟨rfl, rfl⟩
    go_wp2_with fail
    refine (HL.out _).mono ?_
    rintro r w' ⟨rfl, rfl⟩
    go_wp2_with fail
    refine (HM.out _).mono ?_
    rintro r w' ⟨rfl, rfl⟩
    go_wp2_with fail
    go_ret
    exact ⟨pret_int rfl, rfl⟩
  · have HL := Lib.hid (fun W => low_c (p * 4096) 30 1073741824 (by unfold B64 at *; omega) (by omega) (by decide) W)
    have HM := Lib.hid (fun W => low_c va 30 1073741824 hv (by omega) (by decide) W)
    unfold B64 at hv he
    clear h
    go_enter Try.func59, Try.ntmps59
    go_wp2_with fail
    refine (HG.out _).mono ?_
    rintro r w' ⟨rfl, rfl⟩
    go_wp2_with fail
    refine (HC.out _).mono ?_
    rintro r w' ⟨rfl, rfl⟩
    go_wp2_with fail
    refine (HL.out _).mono ?_
    rintro r w' ⟨rfl, rfl⟩
    go_wp2_with fail
    refine (HM.out _).mono ?_
    rintro r w' ⟨rfl, rfl⟩
    go_wp2_with fail
    go_ret
    exact ⟨pret_int rfl, rfl⟩
theorem At_c (e va n : Int) (he : B64 e) (hv : B64 va) (hn : I64 n) (w : World) :
    Calls Try.prog 59 #[.int .u64 e, .int .u64 va, .int .i64 n] w fun r w' => r = .returned (.int .u64 (atV e va n)) ∧ w = w' := by
  by_cases h : 0 ≤ n ∧ n ≤ 2
  · exact At_one e va n he hv h w
  · have HK := Lib.hid (known_no h)
    have HC := Lib.hid (fun W => known_c n hn W)
    have HG := Lib.hid (fun W => Page_c e he W)
    have hp := page_bd he
    rw [HK.out] at HC
    unfold atV
    rw [HK.out, if_neg (by simp)]
    generalize pageV e = p at *
    unfold B64 at hv he
    clear h
    go_enter Try.func59, Try.ntmps59
    go_wp2_with fail
    refine (HG.out _).mono ?_
    rintro r w' ⟨rfl, rfl⟩
    go_wp2_with fail
    refine (HC.out _).mono ?_
    rintro r w' ⟨rfl, rfl⟩
    go_wp2_with fail
    go_ret
    exact ⟨rfl, rfl⟩
theorem beq_dec (a b : Int) : (a == b) = decide (a = b) := by by_cases h : a = b <;> simp [h]
theorem Aligned_one (e n : Int) (he : B64 e) (h : 0 ≤ n ∧ n ≤ 2) (w : World) :
    Calls Try.prog 99 #[.int .u64 e, .int .i64 n] w fun r w' => r = .returned (.bool (alignedV e n)) ∧ w = w' := by
  have HK := Lib.hid (known_yes h)
  have HC := Lib.hid (fun W => known_c n (by omega) W)
  have HG := Lib.hid (fun W => Page_c e he W)
  have hp := page_bd he
  rw [HK.out] at HC
  unfold alignedV
  rw [HK.out]
  generalize pageV e = p at *
  rcases (show n = 0 ∨ n = 1 ∨ n = 2 by omega) with rfl | rfl | rfl
  · have HL := Lib.hid (fun W => low_c p 0 1 (by unfold B64 at *; omega) (by omega) (by decide) W)
    have HZ : Hid (decide (p * 4096 % szV 0 = 0) = decide (p % 1 = 0)) := Lib.hid (decide_eq_decide.2 (by rw [show szV 0 = 4096 from rfl]; omega))
    rw [HZ.out]
    clear h
    go_enter Try.func99, Try.ntmps99
    go_wp2_with fail
    refine (HC.out _).mono ?_
    rintro r w' ⟨rfl, rfl⟩
    go_wp2_with fail
    refine (HG.out _).mono ?_
    rintro r w' ⟨rfl, rfl⟩
    go_wp2_with fail
    refine (HL.out _).mono ?_
    rintro r w' ⟨rfl, rfl⟩
    go_wp2_with fail
    go_ret
    exact ⟨pret_boo (by simp), rfl⟩
  · have HL := Lib.hid (fun W => low_c p 9 512 (by unfold B64 at *; omega) (by omega) (by decide) W)
    have HZ : Hid (decide (p * 4096 % szV 1 = 0) = decide (p % 512 = 0)) := Lib.hid (decide_eq_decide.2 (by rw [show szV 1 = 2097152 from rfl]; omega))
    rw [HZ.out]
    clear h
    go_enter Try.func99, Try.ntmps99
    go_wp2_with fail
    refine (HC.out _).mono ?_
    rintro r w' ⟨rfl, rfl⟩
    go_wp2_with fail
    refine (HG.out _).mono ?_
    rintro r w' ⟨rfl, rfl⟩
    go_wp2_with fail
    refine (HL.out _).mono ?_
    rintro r w' ⟨rfl, rfl⟩
    go_wp2_with fail
    go_ret
    exact ⟨pret_boo (by simp [beq_dec]), rfl⟩
  · have HL := Lib.hid (fun W => low_c p 18 262144 (by unfold B64 at *; omega) (by omega) (by decide) W)
    have HZ : Hid (decide (p * 4096 % szV 2 = 0) = decide (p % 262144 = 0)) := Lib.hid (decide_eq_decide.2 (by rw [show szV 2 = 1073741824 from rfl]; omega))
    rw [HZ.out]
    clear h
    go_enter Try.func99, Try.ntmps99
    go_wp2_with fail
    refine (HC.out _).mono ?_
    rintro r w' ⟨rfl, rfl⟩
    go_wp2_with fail
    refine (HG.out _).mono ?_
    rintro r w' ⟨rfl, rfl⟩
    go_wp2_with fail
    refine (HL.out _).mono ?_
    rintro r w' ⟨rfl, rfl⟩
    go_wp2_with fail
    go_ret
    exact ⟨pret_boo (by simp [beq_dec]), rfl⟩
theorem Aligned_c (e n : Int) (he : B64 e) (hn : I64 n) (w : World) :
    Calls Try.prog 99 #[.int .u64 e, .int .i64 n] w fun r w' => r = .returned (.bool (alignedV e n)) ∧ w = w' := by
  by_cases h : 0 ≤ n ∧ n ≤ 2
  · exact Aligned_one e n he h w
  · have HK := Lib.hid (known_no h)
    have HC := Lib.hid (fun W => known_c n hn W)
    rw [HK.out] at HC
    unfold alignedV
    rw [HK.out]
    clear h
    go_enter Try.func99, Try.ntmps99
    go_wp2_with fail
    refine (HC.out _).mono ?_
    rintro r w' ⟨rfl, rfl⟩
    go_wp2_with fail
    go_ret
    exact ⟨rfl, rfl⟩
end Go.Proofs.Ytkfmcbhoendocaa
end
