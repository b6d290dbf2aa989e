/-
  What an entry is, and what may be done by it: contracts over the program's translation.
  Conditions: the arguments are numbers of their kinds.
-/
import Derived.Test.YtkfmcbhoendocaaPteC
namespace Go.Proofs.Ytkfmcbhoendocaa
open Go Go.RowKit W M A P
set_option linter.unusedVariables false

theorem Rule.calls {w : World} {k : FuncId} {cap : Array Value} {p : Int → Bool} (h : Rule w (.func (.func k) #[] cap) p) (w' : World) (hg : w.grownBy w' none) (e : Int) (he : B64 e) :
    Calls Try.prog k (#[.int .u64 e] ++ cap) w' fun r w'' => r = .returned (.bool (p e)) ∧ w'.grownBy w'' none := by
  obtain ⟨k', c', h1, -, h2⟩ := h
  injection h1 with h1 _ h3
  injection h1 with h1
  subst h1; subst h3
  exact h2 w' hg e he
abbrev RL := List (Value × (Int → Bool))
def okL (L : RL) (e : Int) : Bool := L.all fun x => x.2 e
theorem row_v {L : RL} {k : Nat} {x : Value × (Int → Bool)} (h : L[k]? = some x) : (L.map (·.1))[k]? = some x.1 := by rw [List.getElem?_map, h]; rfl
set_option maxHeartbeats 400000 in
theorem each_c (L : RL) (e : Int) (he : B64 e) (hl : L.length ≤ 8) (g : Nat) (w : World) (hR : Row w g 164 (L.map (·.1))) (hr : ∀ x ∈ L, Rule w x.1 x.2) :
    Calls Try.prog 90 #[.int .u64 e, .slice (some ⟨g, 0, none⟩) L.length L.length] w fun r w' => r = .returned (.bool (okL L e)) ∧ w.grownBy w' none := by
  go_enter Try.func90, Try.ntmps90
  go_wp2_with fail
  go_loopw [9] (fun i wr => ∃ k : Nat, k ≤ L.length ∧ i = .int .i64 k ∧ okL L e = okL (L.drop k) e ∧ w.grownBy wr none) (fun i _ => L.length - (intOf i).toNat)
  case atStart => exact ⟨0, Nat.zero_le _, rfl, rfl, gr_refl _ _⟩
  case round =>
    obtain ⟨k, hk, rfl, hall, hG⟩ := hrel
    by_cases hlt : k < L.length
    · obtain ⟨x, M, hd⟩ : ∃ x M, L.drop k = x :: M := ⟨L[k], L.drop (k + 1), List.drop_eq_getElem_cons hlt⟩
      have hx : L[k]? = some x := by rw [← List.head?_drop, hd]; rfl
      have hM : L.drop (k + 1) = M := by rw [← List.tail_drop, hd]; rfl
      have hmem : x ∈ L := List.mem_of_getElem? hx
      have c1 := (hR.grown hG (by simp)).cell k
      rw [row_v hx] at c1
      obtain ⟨f, cap, hv, hcf, hc⟩ := (hr x hmem).grown hG
      rw [hv] at c1
      unfold POpens at hcf
      have HC := Lib.hid (hc wr (gr_refl _ _) e he)
      rw [hd] at hall
      have HA := Lib.hid hall
      have HM := Lib.hid hM
      have GG := Lib.hid hG
      clear hc hv hmem hx hd hall hM hG hr
      cases hb : x.2 e with
      | true =>
        rw [hb] at HC
        go_wp2_with fail
        refine HC.out.mono ?_
        rintro r w' ⟨rfl, hG⟩
        go_wp2_with fail
        go_round
        case rel =>
          refine ⟨k + 1, by omega, by go_num, ?_, gr_trans GG.out hG⟩
          rw [HA.out, HM.out]
          simp [okL, hb]
        case measure => simp [intOf]; omega
      | false =>
        rw [hb] at HC
        go_wp2_with fail
        refine HC.out.mono ?_
        rintro r w' ⟨rfl, hG⟩
        go_wp2_with fail
        go_ret
        refine ⟨pret_boo ?_, gr_trans GG.out hG⟩
        rw [HA.out]
        simp [okL, hb]
    · obtain rfl : k = L.length := by omega
      rw [List.drop_length] at hall
      have HA := Lib.hid hall
      clear hall
      go_wp2_with fail
      go_ret
      exact ⟨pret_boo (by rw [HA.out]; rfl), hG⟩

/-! ### What rules ask for, in bits -/
theorem all_1 {e : Int} (he : B64 e) : allP 1 e = bt e 1 := by unfold allP bt; rw [a1 e he]; refine decide_eq_decide.2 ?_; omega
theorem all_2 {e : Int} (he : B64 e) : allP 2 e = bt e 2 := by unfold allP bt; rw [a2 e he]; refine decide_eq_decide.2 ?_; omega
theorem all_8 {e : Int} (he : B64 e) : allP 8 e = bt e 8 := by unfold allP bt; rw [a8 e he]; refine decide_eq_decide.2 ?_; omega
theorem all_16 {e : Int} (he : B64 e) : allP 16 e = bt e 16 := by unfold allP bt; rw [a16 e he]; refine decide_eq_decide.2 ?_; omega
theorem all_64 {e : Int} (he : B64 e) : allP 64 e = bt e 64 := by unfold allP bt; rw [a64 e he]; refine decide_eq_decide.2 ?_; omega
theorem all_132 {e : Int} (he : B64 e) : allP 132 e = (bt e 4 && bt e 128) := by
  unfold allP bt; rw [a132 e he, ← Bool.decide_and]; refine decide_eq_decide.2 ?_; omega
theorem some_2 {e : Int} (he : B64 e) : someP 2 e = bt e 2 := by unfold someP bt; rw [a2 e he, ← decide_not]; refine decide_eq_decide.2 ?_; omega
theorem some_4 {e : Int} (he : B64 e) : someP 4 e = bt e 4 := by unfold someP bt; rw [a4 e he, ← decide_not]; refine decide_eq_decide.2 ?_; omega
theorem some_10 {e : Int} (he : B64 e) : someP 10 e = (bt e 2 || bt e 8) := by
  unfold someP bt; rw [a10 e he, ← decide_not, ← Bool.decide_or]; refine decide_eq_decide.2 ?_; omega
theorem none_16 {e : Int} (he : B64 e) : noneP 16 e = !bt e 16 := by unfold noneP bt; rw [a16 e he, ← decide_not]; refine decide_eq_decide.2 ?_; omega
theorem none_222 {e : Int} (he : B64 e) : noneP 222 e = (!bt e 2 && !bt e 4 && !bt e 8 && !bt e 16 && !bt e 64 && !bt e 128) := by
  unfold noneP bt; rw [a222 e he]
  simp only [← decide_not, ← Bool.decide_and]
  refine decide_eq_decide.2 ?_; omega
theorem none_high {e : Int} (he : B64 e) : noneP 18428729675200069632 e = decide (e / 18014398509481984 = 0) := by
  unfold noneP; rw [aHigh e he]; refine decide_eq_decide.2 ?_; unfold B64 at he; omega

theorem valid_eq {e : Int} (he : B64 e) : validV e = (allP 1 e && noneP 18428729675200069632 e && (!someP 4 e || someP 2 e)) := by
  rw [all_1 he, none_high he, some_4 he, some_2 he]
  unfold validV
  generalize bt e 1 = a
  generalize bt e 2 = b
  generalize bt e 4 = c
  generalize decide (e / 18014398509481984 = 0) = d
  revert a b c d; decide
set_option maxHeartbeats 1000000 in
theorem Valid_c (e : Int) (he : B64 e) (w : World) :
    Calls Try.prog 131 #[.int .u64 e] w fun r w' => r = .returned (.bool (validV e)) ∧ w.grownBy w' none := by
  rw [valid_eq he]
  have HO : Hid (∀ v1 v2, okL [(v1, allP 1), (v2, noneP 18428729675200069632)] e = (allP 1 e && noneP 18428729675200069632 e)) := Lib.hid (by intro v1 v2; simp [okL])
  generalize (allP 1 e && noneP 18428729675200069632 e) = A at *
  obtain ⟨B, hB⟩ : ∃ B, someP 4 e = B := ⟨_, rfl⟩
  obtain ⟨C, hC⟩ : ∃ C, someP 2 e = C := ⟨_, rfl⟩
  rw [hB, hC]
  have HB := Lib.hid hB
  have HC := Lib.hid hC
  have HE := Lib.hid he
  clear hB hC he
  go_enter Try.func131, Try.ntmps131
  go_wp2_with fail
  refine (some_r 4 (by unfold B64; omega) _).mono ?_
  rintro r w1 ⟨v4, rfl, R4, G1⟩
  obtain ⟨k4, c4, e4, o4, -⟩ := id R4
  subst e4
  go_wp2_with fail
  refine (some_r 2 (by unfold B64; omega) _).mono ?_
  rintro r w2 ⟨v2, rfl, R2, G2⟩
  obtain ⟨k2, c2, e2, o2, -⟩ := id R2
  subst e2
  go_wp2_with fail
  refine (all_r 1 (by unfold B64; omega) _).mono ?_
  rintro r w3 ⟨v1, rfl, R1, G3⟩
  obtain ⟨k1, c1, e1, -, -⟩ := id R1
  subst e1
  go_wp2_with fail
  refine (none_r 18428729675200069632 (by unfold B64; omega) _).mono ?_
  rintro r w4 ⟨vh, rfl, Rh, G4⟩
  obtain ⟨kh, ch, eh, -, -⟩ := id Rh
  subst eh
  have GA := gr_trans (gr_trans (gr_trans G1 G2) G3) G4
  have G24 := gr_trans G3 G4
  have R4' := R4.grown (gr_trans G2 G24)
  have R2' := R2.grown G24
  have R1' := R1.grown G4
  clear R4 R2 R1 G1 G2 G3 G4 G24
  unfold POpens at o4 o2
  go_wp2_with fail
  have hE := each_c [(.func (.func k1) #[] c1, allP 1), (.func (.func kh) #[] ch, noneP 18428729675200069632)] e HE.out (by simp) w4.heap.size _ (Row.fresh w4 164 [.func (.func k1) #[] c1, .func (.func kh) #[] ch]) (by
    intro x hx
    simp only [List.mem_cons, List.not_mem_nil, or_false] at hx
    rcases hx with rfl | rfl
    · exact R1'.grown (gr_alloc (gr_refl _ _) _)
    · exact Rh.grown (gr_alloc (gr_refl _ _) _))
  refine hE.mono ?_
  rintro r w5 ⟨rfl, G5⟩
  rw [HO.out]
  have G6 := gr_trans (gr_alloc (gr_refl _ _) _) G5
  have K4 := Lib.hid ((R4'.grown G6).calls _ (gr_refl _ _) e HE.out)
  have K2 := Lib.hid (fun W hW => (R2'.grown G6).calls W hW e HE.out)
  rw [HB.out] at K4
  rw [HC.out] at K2
  have GB := gr_trans GA G6
  clear hE G5 G6 GA R1' Rh R4' R2'
  cases A with
  | false =>
    go_wp2_with fail
    go_ret
    exact ⟨rfl, GB⟩
  | true =>
    cases B with
    | false =>
      go_wp2_with fail
      refine K4.out.mono ?_
      rintro r w6 ⟨rfl, G7⟩
      go_wp2_with fail
      go_ret
      exact ⟨rfl, gr_trans GB G7⟩
    | true =>
      go_wp2_with fail
      refine K4.out.mono ?_
      rintro r w6 ⟨rfl, G7⟩
      go_wp2_with fail
      refine (K2.out _ G7).mono ?_
      rintro r w7 ⟨rfl, G8⟩
      go_wp2_with fail
      go_ret
      exact ⟨rfl, gr_trans (gr_trans GB G7) G8⟩
end Go.Proofs.Ytkfmcbhoendocaa
