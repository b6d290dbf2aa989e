/-
  Leaves, tables, what may be done, addresses: contracts over the program's translation.
  Conditions: the arguments are numbers of their kinds.
-/
import Derived.Test.YtkfmcbhoendocaaPteD
namespace Go.Proofs.Ytkfmcbhoendocaa
open Go Go.RowKit W M A P
set_option linter.unusedVariables false

theorem valid_r (w : World) : Rule w (.func (.func 131) #[] #[]) validV := ⟨_, _, rfl, fun _ _ => by kernel_rfl, fun w' _ e he => Valid_c e he w'⟩
theorem leaf_eq {e : Int} (he : B64 e) : leafV e = (validV e && someP 10 e) := by rw [some_10 he]; rfl
theorem table_eq {e : Int} (he : B64 e) : tableV e = (validV e && noneP 222 e) := by rw [none_222 he]; rfl
set_option maxHeartbeats 1000000 in
theorem Leaf_c (e : Int) (he : B64 e) (w : World) :
    Calls Try.prog 91 #[.int .u64 e] w fun r w' => r = .returned (.bool (leafV e)) ∧ w.grownBy w' none := by
  rw [leaf_eq he]
  have HO : Hid (∀ v1 v2, okL [(v1, validV), (v2, someP 10)] e = (validV e && someP 10 e)) := Lib.hid (by intro v1 v2; simp [okL])
  generalize (validV e && someP 10 e) = A at *
  have HE := Lib.hid he
  clear he
  go_enter Try.func91, Try.ntmps91
  go_wp2_with fail
  refine (some_r 10 (by unfold B64; omega) _).mono ?_
  rintro r w4 ⟨v1, rfl, R1, G4⟩
  obtain ⟨k1, c1, e1, -, -⟩ := id R1
  subst e1
  go_wp2_with fail
  have hE := each_c [(.func (.func 131) #[] #[], validV), (.func (.func k1) #[] c1, someP 10)] e HE.out (by simp) w4.heap.size _ (Row.fresh w4 164 [.func (.func 131) #[] #[], .func (.func k1) #[] c1]) (by
    intro x hx
    simp only [List.mem_cons, List.not_mem_nil, or_false] at hx
    rcases hx with rfl | rfl
    · exact valid_r _
    · exact R1.grown (gr_alloc (gr_refl _ _) _))
  refine hE.mono ?_
  rintro r w5 ⟨rfl, G5⟩
  rw [HO.out]
  have G6 := gr_trans G4 (gr_trans (gr_alloc (gr_refl _ _) _) G5)
  go_wp2_with fail
  go_ret
  exact ⟨rfl, G6⟩
set_option maxHeartbeats 1000000 in
theorem Table_c (e : Int) (he : B64 e) (w : World) :
    Calls Try.prog 97 #[.int .u64 e] w fun r w' => r = .returned (.bool (tableV e)) ∧ w.grownBy w' none := by
  rw [table_eq he]
  have HO : Hid (∀ v1 v2, okL [(v1, validV), (v2, noneP 222)] e = (validV e && noneP 222 e)) := Lib.hid (by intro v1 v2; simp [okL])
  generalize (validV e && noneP 222 e) = A at *
  have HE := Lib.hid he
  clear he
  go_enter Try.func97, Try.ntmps97
  go_wp2_with fail
  refine (none_r 222 (by unfold B64; omega) _).mono ?_
  rintro r w4 ⟨v1, rfl, R1, G4⟩
  obtain ⟨k1, c1, e1, -, -⟩ := id R1
  subst e1
  go_wp2_with fail
  have hE := each_c [(.func (.func 131) #[] #[], validV), (.func (.func k1) #[] c1, noneP 222)] e HE.out (by simp) w4.heap.size _ (Row.fresh w4 164 [.func (.func 131) #[] #[], .func (.func k1) #[] c1]) (by
    intro x hx
    simp only [List.mem_cons, List.not_mem_nil, or_false] at hx
    rcases hx with rfl | rfl
    · exact valid_r _
    · exact R1.grown (gr_alloc (gr_refl _ _) _))
  refine hE.mono ?_
  rintro r w5 ⟨rfl, G5⟩
  rw [HO.out]
  have G6 := gr_trans G4 (gr_trans (gr_alloc (gr_refl _ _) _) G5)
  go_wp2_with fail
  go_ret
  exact ⟨rfl, G6⟩
theorem leaf_r (w : World) : Rule w (.func (.func 91) #[] #[]) leafV := ⟨_, _, rfl, fun _ _ => by kernel_rfl, fun w' _ e he => Leaf_c e he w'⟩

/-! ### By kind, by privilege -/
theorem Rule.as {w : World} {v : Value} {p q : Int → Bool} (h : Rule w v p) (hq : ∀ e, B64 e → p e = q e) : Rule w v q := by
  obtain ⟨k, cap, h1, h2, h3⟩ := h
  exact ⟨k, cap, h1, h2, fun w' hg e he => by rw [← hq e he]; exact h3 w' hg e he⟩
theorem GivesR.as {w : World} {p q : Int → Bool} {r : Ending} {w' : World} (h : GivesR w p r w') (hq : ∀ e, B64 e → p e = q e) : GivesR w q r w' := by
  obtain ⟨v, h1, h2, h3⟩ := h
  exact ⟨v, h1, h2.as hq, h3⟩
def I64 (n : Int) : Prop := -9223372036854775808 ≤ n ∧ n ≤ 9223372036854775807
theorem byKind_c (kind st : Int) (hk : I64 kind) (hs : B64 st) (w : World) :
    Calls Try.prog 93 #[.int .i64 kind, .int .u64 st] w (GivesR w fun e => byKindV e kind st) := by
  have hmf : ∀ (fn : Fn) (first cap : Array Value) (w : World), (Instr.makeFunc fn first cap).run Try.prog w = .ok (.func fn first cap) w := fun _ _ _ _ => rfl
  have hm := aMxr st hs
  have hb : bt st 524288 = decide (st / 524288 % 2 = 1) := rfl
  unfold I64 at hk
  unfold B64 at hs
  by_cases h0 : kind = 0
  · subst h0
    go_enter Try.func93, Try.ntmps93
    go_wp2_with fail
    refine (all_r 8 (by unfold B64; omega) _).mono ?_
    rintro r w1 ⟨v, rfl, R, G⟩
    obtain ⟨k1, c1, e1, -, -⟩ := id R
    subst e1
    go_wp2_with fail
    go_ret
    exact ⟨_, rfl, R.as fun e he => by rw [all_8 he]; rfl, G⟩
  · by_cases h1 : kind = 1
    · subst h1
      by_cases hx : st / 524288 % 2 = 1
      · have hn : bits .and .u64 st 524288 = 524288 := by omega
        go_enter Try.func93, Try.ntmps93
        go_wp2_with fail
        refine (some_r 10 (by unfold B64; omega) _).mono ?_
        rintro r w1 ⟨v, rfl, R, G⟩
        obtain ⟨k1, c1, e1, -, -⟩ := id R
        subst e1
        go_wp2_with fail
        go_ret
        exact ⟨_, rfl, R.as fun e he => by rw [some_10 he]; simp [byKindV, hb, hx], G⟩
      · have hn : bits .and .u64 st 524288 = 0 := by omega
        go_enter Try.func93, Try.ntmps93
        go_wp2_with fail
        refine (all_r 2 (by unfold B64; omega) _).mono ?_
        rintro r w1 ⟨v, rfl, R, G⟩
        obtain ⟨k1, c1, e1, -, -⟩ := id R
        subst e1
        go_wp2_with fail
        go_ret
        exact ⟨_, rfl, R.as fun e he => by rw [all_2 he]; simp [byKindV, hb, hx], G⟩
    · by_cases h2 : kind = 2
      · subst h2
        go_enter Try.func93, Try.ntmps93
        go_wp2_with fail
        refine (all_r 132 (by unfold B64; omega) _).mono ?_
        rintro r w1 ⟨v, rfl, R, G⟩
        obtain ⟨k1, c1, e1, -, -⟩ := id R
        subst e1
        go_wp2_with fail
        go_ret
        exact ⟨_, rfl, R.as fun e he => by rw [all_132 he]; simp [byKindV], G⟩
      · go_enter Try.func93, Try.ntmps93
        go_wp2_with fail
        go_ret
        exact ⟨_, rfl, (never_r _).as fun e he => by simp [byKindV, h0, h1, h2], gr_refl _ _⟩
theorem byPriv_c (kind priv st : Int) (hk : I64 kind) (hp : I64 priv) (hs : B64 st) (w : World) :
    Calls Try.prog 94 #[.int .i64 kind, .int .i64 priv, .int .u64 st] w (GivesR w fun e => byPrivV e kind priv st) := by
  have hmf : ∀ (fn : Fn) (first cap : Array Value) (w : World), (Instr.makeFunc fn first cap).run Try.prog w = .ok (.func fn first cap) w := fun _ _ _ _ => rfl
  have hm := aSum st hs
  have hb : bt st 262144 = decide (st / 262144 % 2 = 1) := rfl
  unfold I64 at hk hp
  unfold B64 at hs
  by_cases h0 : priv = 0
  · subst h0
    go_enter Try.func94, Try.ntmps94
    go_wp2_with fail
    refine (all_r 16 (by unfold B64; omega) _).mono ?_
    rintro r w1 ⟨v, rfl, R, G⟩
    obtain ⟨k1, c1, e1, -, -⟩ := id R
    subst e1
    go_wp2_with fail
    go_ret
    exact ⟨_, rfl, R.as fun e he => by rw [all_16 he]; rfl, G⟩
  · by_cases h1 : priv = 1
    · subst h1
      by_cases hf : kind = 0
      · have hne : (kind != 0) = false := by subst hf; rfl
        go_enter Try.func94, Try.ntmps94
        go_wp2_with fail
        refine (none_r 16 (by unfold B64; omega) _).mono ?_
        rintro r w1 ⟨v, rfl, R, G⟩
        obtain ⟨k1, c1, e1, -, -⟩ := id R
        subst e1
        go_wp2_with fail
        go_ret
        exact ⟨_, rfl, R.as fun e he => by rw [none_16 he]; simp [byPrivV, hf], G⟩
      · have hne : (kind != 0) = true := by simpa using hf
        by_cases hx : st / 262144 % 2 = 1
        · have hn : bits .and .u64 st 262144 = 262144 := by omega
          go_enter Try.func94, Try.ntmps94
          go_wp2_with fail
          go_ret
          exact ⟨_, rfl, (always_r _).as fun e he => by simp [byPrivV, hf, hb, hx], gr_refl _ _⟩
        · have hn : bits .and .u64 st 262144 = 0 := by omega
          go_enter Try.func94, Try.ntmps94
          go_wp2_with fail
          refine (none_r 16 (by unfold B64; omega) _).mono ?_
          rintro r w1 ⟨v, rfl, R, G⟩
          obtain ⟨k1, c1, e1, -, -⟩ := id R
          subst e1
          go_wp2_with fail
          go_ret
          exact ⟨_, rfl, R.as fun e he => by rw [none_16 he]; simp [byPrivV, hf, hb, hx], G⟩
    · go_enter Try.func94, Try.ntmps94
      go_wp2_with fail
      go_ret
      exact ⟨_, rfl, (never_r _).as fun e he => by simp [byPrivV, h0, h1], gr_refl _ _⟩
end Go.Proofs.Ytkfmcbhoendocaa
