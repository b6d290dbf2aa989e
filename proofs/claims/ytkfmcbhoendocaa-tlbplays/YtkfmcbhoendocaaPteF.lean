/-
  What may be done by an entry, and which address it makes: contracts over the program's translation.
  Conditions: the arguments are numbers of their kinds.
-/
import Derived.Test.YtkfmcbhoendocaaPteE
namespace Go.Proofs.Ytkfmcbhoendocaa
open Go Go.RowKit W M A P
set_option linter.unusedVariables false

set_option maxHeartbeats 1000000 in
theorem May_c (e kind priv st : Int) (he : B64 e) (hk : I64 kind) (hp : I64 priv) (hs : B64 st) (w : World) :
    Calls Try.prog 56 #[.int .u64 e, .int .i64 kind, .int .i64 priv, .int .u64 st] w fun r w' => r = .returned (.bool (mayV e kind priv st)) ∧ w.grownBy w' none := by
  have HO : Hid (∀ v1 v2 v3 v4, okL [(v1, leafV), (v2, allP 64), (v3, fun e => byKindV e kind st), (v4, fun e => byPrivV e kind priv st)] e = mayV e kind priv st) := Lib.hid (by
    intro v1 v2 v3 v4; unfold mayV; rw [← all_64 he]; simp only [okL, List.all_cons, List.all_nil, Bool.and_true, Bool.and_assoc])
  generalize mayV e kind priv st = A at *
  have HE := Lib.hid he
  have HK := Lib.hid (fun W => byKind_c kind st hk hs W)
  have HP := Lib.hid (fun W => byPriv_c kind priv st hk hp hs W)
  clear he hk hp hs
  go_enter Try.func56, Try.ntmps56
  go_wp2_with fail
  refine (all_r 64 (by unfold B64; omega) _).mono ?_
  rintro r w1 ⟨v1, rfl, R1, G1⟩
  obtain ⟨k1, c1, e1, -, -⟩ := id R1
  subst e1
  go_wp2_with fail
  refine (HK.out _).mono ?_
  rintro r w2 ⟨v2, rfl, R2, G2⟩
  obtain ⟨k2, c2, e2, -, -⟩ := id R2
  subst e2
  go_wp2_with fail
  refine (HP.out _).mono ?_
  rintro r w3 ⟨v3, rfl, R3, G3⟩
  obtain ⟨k3, c3, e3, -, -⟩ := id R3
  subst e3
  have R1' := R1.grown (gr_trans G2 G3)
  have R2' := R2.grown G3
  have GA := gr_trans (gr_trans G1 G2) G3
  clear R1 R2 G1 G2 G3
  go_wp2_with fail
  have hE := each_c [(.func (.func 91) #[] #[], leafV), (.func (.func k1) #[] c1, allP 64), (.func (.func k2) #[] c2, fun e => byKindV e kind st), (.func (.func k3) #[] c3, fun e => byPrivV e kind priv st)] e HE.out (by simp) w3.heap.size _ (Row.fresh w3 164 [.func (.func 91) #[] #[], .func (.func k1) #[] c1, .func (.func k2) #[] c2, .func (.func k3) #[] c3]) (by
    intro x hx
    simp only [List.mem_cons, List.not_mem_nil, or_false] at hx
    rcases hx with rfl | rfl | rfl | rfl
    · exact leaf_r _
    · exact R1'.grown (gr_alloc (gr_refl _ _) _)
    · exact R2'.grown (gr_alloc (gr_refl _ _) _)
    · exact R3.grown (gr_alloc (gr_refl _ _) _))
  refine hE.mono ?_
  rintro r w5 ⟨rfl, G5⟩
  rw [HO.out]
  have G6 := gr_trans GA (gr_trans (gr_alloc (gr_refl _ _) _) G5)
  go_wp2_with fail
  go_ret
  exact ⟨rfl, G6⟩
theorem Canonical_c (va : Int) (hv : B64 va) (w : World) :
    Calls Try.prog 54 #[.int .u64 va] w fun r w' => r = .returned (.bool (canonV va)) ∧ w = w' := by
  unfold B64 at hv
  unfold canonV
  by_cases h1 : va / 274877906944 = 0
  · go_enter Try.func54, Try.ntmps54
    go_wp2_with fail
    go_ret
    exact ⟨pret_boo (by simp [h1]), rfl⟩
  · by_cases h2 : va / 274877906944 = 67108863
    · go_enter Try.func54, Try.ntmps54
      go_wp2_with fail
      go_ret
      exact ⟨pret_boo (by simp [h2]), rfl⟩
    · go_enter Try.func54, Try.ntmps54
      go_wp2_with fail
      go_ret
      exact ⟨pret_boo (by simp [h1, h2]), rfl⟩
theorem known_yes {n : Int} (h : 0 ≤ n ∧ n ≤ 2) : knownV n = true := by unfold knownV; simpa using h
theorem known_no {n : Int} (h : ¬ (0 ≤ n ∧ n ≤ 2)) : knownV n = false := by unfold knownV; simpa using h
theorem Vpn_c (va n : Int) (hv : B64 va) (hn : I64 n) (w : World) :
    Calls Try.prog 96 #[.int .u64 va, .int .i64 n] w fun r w' => r = .returned (.int .u64 (vpnV va n)) ∧ w = w' := by
  by_cases h : 0 ≤ n ∧ n ≤ 2
  · have HK := Lib.hid (known_yes h)
    rcases (show n = 0 ∨ n = 1 ∨ n = 2 by omega) with rfl | rfl | rfl
    · have HL := Lib.hid (fun W => low_c (va / 4096) 9 512 (by unfold B64 at *; omega) (by omega) (by decide) W)
      unfold B64 at hv
      clear h hn
      go_enter Try.func96, Try.ntmps96
      go_wp2_with fail
      refine (known_c 0 (by omega) _).mono ?_
      rintro r w' ⟨rfl, rfl⟩
      rw [HK.out]
      go_wp2_with fail
      refine (HL.out _).mono ?_
      rintro r w' ⟨rfl, rfl⟩
      go_wp2_with fail
      go_ret
      exact ⟨rfl, rfl⟩
    · have HL := Lib.hid (fun W => low_c (va / 2097152) 9 512 (by unfold B64 at *; omega) (by omega) (by decide) W)
      unfold B64 at hv
      clear h hn
      go_enter Try.func96, Try.ntmps96
      go_wp2_with fail
      refine (known_c 1 (by omega) _).mono ?_
      rintro r w' ⟨rfl, rfl⟩
      rw [HK.out]
      go_wp2_with fail
      refine (HL.out _).mono ?_
      rintro r w' ⟨rfl, rfl⟩
      go_wp2_with fail
      go_ret
      exact ⟨rfl, rfl⟩
    · have HL := Lib.hid (fun W => low_c (va / 1073741824) 9 512 (by unfold B64 at *; omega) (by omega) (by decide) W)
      unfold B64 at hv
      clear h hn
      go_enter Try.func96, Try.ntmps96
      go_wp2_with fail
      refine (known_c 2 (by omega) _).mono ?_
      rintro r w' ⟨rfl, rfl⟩
      rw [HK.out]
      go_wp2_with fail
      refine (HL.out _).mono ?_
      rintro r w' ⟨rfl, rfl⟩
      go_wp2_with fail
      go_ret
      exact ⟨rfl, rfl⟩
  · have HK := Lib.hid (known_no h)
    have HZ : Hid (vpnV va n = 0) := Lib.hid (by unfold vpnV; rw [HK.out]; rfl)
    rw [HZ.out]
    have HC := Lib.hid (fun W => known_c n hn W)
    rw [HK.out] at HC
    clear h
    go_enter Try.func96, Try.ntmps96
    go_wp2_with fail
    refine (HC.out _).mono ?_
    rintro r w' ⟨rfl, rfl⟩
    go_wp2_with fail
    go_ret
    exact ⟨rfl, rfl⟩
theorem At_one (e va : Int) (n : Int) (he : B64 e) (hv : B64 va) (h : 0 ≤ n ∧ n ≤ 2) (w : World) :
    Calls Try.prog 59 #[.int .u64 e, .int .u64 va, .int .i64 n] w fun r w' => r = .returned (.int .u64 (atV e va n)) ∧ w = w' := by
  have HK := Lib.hid (known_yes h)
  have HC := Lib.hid (fun W => known_c n (by omega) W)
  have HG := Lib.hid (fun W => Page_c e he W)
  have hp := page_bd he
  rw [HK.out] at HC
  unfold atV
  rw [HK.out, if_pos rfl]
  generalize pageV e = p at *
  rcases (show n = 0 ∨ n = 1 ∨ n = 2 by omega) with rfl | rfl | rfl
  · have HL := Lib.hid (fun W => low_c (p * 4096) 12 4096 (by unfold B64 at *; omega) (by omega) (by decide) W)
    have HM := Lib.hid (fun W => low_c va 12 4096 hv (by omega) (by decide) W)
    unfold B64 at hv he
    clear h
    go_enter Try.func59, Try.ntmps59
    go_wp2_with fail
    refine (HG.out _).mono ?_
    rintro r w' ⟨rfl, rfl⟩
    go_wp2_with fail
    refine (HC.out _).mono ?_
    rintro r w' ⟨rfl, rfl⟩
    go_wp2_with fail
    refine (HL.out _).mono ?_
    rintro r w' ⟨rfl, rfl⟩
    go_wp2_with fail
    refine (HM.out _).mono ?_
    rintro r w' ⟨rfl, rfl⟩
    go_wp2_with fail
    go_ret
    exact ⟨pret_int (by unfold szV; simp only [if_pos]; omega), rfl⟩
  · have HL := Lib.hid (fun W => low_c (p * 4096) 21 2097152 (by unfold B64 at *; omega) (by omega) (by decide) W)
    have HM := Lib.hid (fun W => low_c va 21 2097152 hv (by omega) (by decide) W)
    unfold B64 at hv he
    clear h
    go_enter Try.func59, Try.ntmps59
    go_wp2_with fail
    refine (HG.out _).mono ?_
    rintro r w' ⟨rfl, rfl⟩
    go_wp2_with fail
    refine (HC.out _).mono ?_
    rintro r w' ⟨rfl, rfl⟩
    go_wp2_with fail
    refine (HL.out _).mono ?_
    rintro r w' ⟨rfl, rfl⟩
    go_wp2_with fail
    refine (HM.out _).mono ?_
    rintro r w' ⟨rfl, rfl⟩
    go_wp2_with fail
    go_ret
    exact ⟨pret_int rfl, rfl⟩
  · have HL := Lib.hid (fun W => low_c (p * 4096) 30 1073741824 (by unfold B64 at *; omega) (by omega) (by decide) W)
    have HM := Lib.hid (fun W => low_c va 30 1073741824 hv (by omega) (by decide) W)
    unfold B64 at hv he
    clear h
    go_enter Try.func59, Try.ntmps59
    go_wp2_with fail
    refine (HG.out _).mono ?_
    rintro r w' ⟨rfl, rfl⟩
    go_wp2_with fail
    refine (HC.out _).mono ?_
    rintro r w' ⟨rfl, rfl⟩
    go_wp2_with fail
    refine (HL.out _).mono ?_
    rintro r w' ⟨rfl, rfl⟩
    go_wp2_with fail
    refine (HM.out _).mono ?_
    rintro r w' ⟨rfl, rfl⟩
    go_wp2_with fail
    go_ret
    exact ⟨pret_int rfl, rfl⟩
theorem At_c (e va n : Int) (he : B64 e) (hv : B64 va) (hn : I64 n) (w : World) :
    Calls Try.prog 59 #[.int .u64 e, .int .u64 va, .int .i64 n] w fun r w' => r = .returned (.int .u64 (atV e va n)) ∧ w = w' := by
  by_cases h : 0 ≤ n ∧ n ≤ 2
  · exact At_one e va n he hv h w
  · have HK := Lib.hid (known_no h)
    have HC := Lib.hid (fun W => known_c n hn W)
    have HG := Lib.hid (fun W => Page_c e he W)
    have hp := page_bd he
    rw [HK.out] at HC
    unfold atV
    rw [HK.out, if_neg (by simp)]
    generalize pageV e = p at *
    unfold B64 at hv he
    clear h
    go_enter Try.func59, Try.ntmps59
    go_wp2_with fail
    refine (HG.out _).mono ?_
    rintro r w' ⟨rfl, rfl⟩
    go_wp2_with fail
    refine (HC.out _).mono ?_
    rintro r w' ⟨rfl, rfl⟩
    go_wp2_with fail
    go_ret
    exact ⟨rfl, rfl⟩
theorem beq_dec (a b : Int) : (a == b) = decide (a = b) := by by_cases h : a = b <;> simp [h]
theorem Aligned_one (e n : Int) (he : B64 e) (h : 0 ≤ n ∧ n ≤ 2) (w : World) :
    Calls Try.prog 99 #[.int .u64 e, .int .i64 n] w fun r w' => r = .returned (.bool (alignedV e n)) ∧ w = w' := by
  have HK := Lib.hid (known_yes h)
  have HC := Lib.hid (fun W => known_c n (by omega) W)
  have HG := Lib.hid (fun W => Page_c e he W)
  have hp := page_bd he
  rw [HK.out] at HC
  unfold alignedV
  rw [HK.out]
  generalize pageV e = p at *
  rcases (show n = 0 ∨ n = 1 ∨ n = 2 by omega) with rfl | rfl | rfl
  · have HL := Lib.hid (fun W => low_c p 0 1 (by unfold B64 at *; omega) (by omega) (by decide) W)
    have HZ : Hid (decide (p * 4096 % szV 0 = 0) = decide (p % 1 = 0)) := Lib.hid (decide_eq_decide.2 (by rw [show szV 0 = 4096 from rfl]; omega))
    rw [HZ.out]
    clear h
    go_enter Try.func99, Try.ntmps99
    go_wp2_with fail
    refine (HC.out _).mono ?_
    rintro r w' ⟨rfl, rfl⟩
    go_wp2_with fail
    refine (HG.out _).mono ?_
    rintro r w' ⟨rfl, rfl⟩
    go_wp2_with fail
    refine (HL.out _).mono ?_
    rintro r w' ⟨rfl, rfl⟩
    go_wp2_with fail
    go_ret
    exact ⟨pret_boo (by simp), rfl⟩
  · have HL := Lib.hid (fun W => low_c p 9 512 (by unfold B64 at *; omega) (by omega) (by decide) W)
    have HZ : Hid (decide (p * 4096 % szV 1 = 0) = decide (p % 512 = 0)) := Lib.hid (decide_eq_decide.2 (by rw [show szV 1 = 2097152 from rfl]; omega))
    rw [HZ.out]
    clear h
    go_enter Try.func99, Try.ntmps99
    go_wp2_with fail
    refine (HC.out _).mono ?_
    rintro r w' ⟨rfl, rfl⟩
    go_wp2_with fail
    refine (HG.out _).mono ?_
    rintro r w' ⟨rfl, rfl⟩
    go_wp2_with fail
    refine (HL.out _).mono ?_
    rintro r w' ⟨rfl, rfl⟩
    go_wp2_with fail
    go_ret
    exact ⟨pret_boo (by simp [beq_dec]), rfl⟩
  · have HL := Lib.hid (fun W => low_c p 18 262144 (by unfold B64 at *; omega) (by omega) (by decide) W)
    have HZ : Hid (decide (p * 4096 % szV 2 = 0) = decide (p % 262144 = 0)) := Lib.hid (decide_eq_decide.2 (by rw [show szV 2 = 1073741824 from rfl]; omega))
    rw [HZ.out]
    clear h
    go_enter Try.func99, Try.ntmps99
    go_wp2_with fail
    refine (HC.out _).mono ?_
    rintro r w' ⟨rfl, rfl⟩
    go_wp2_with fail
    refine (HG.out _).mono ?_
    rintro r w' ⟨rfl, rfl⟩
    go_wp2_with fail
    refine (HL.out _).mono ?_
    rintro r w' ⟨rfl, rfl⟩
    go_wp2_with fail
    go_ret
    exact ⟨pret_boo (by simp [beq_dec]), rfl⟩
theorem Aligned_c (e n : Int) (he : B64 e) (hn : I64 n) (w : World) :
    Calls Try.prog 99 #[.int .u64 e, .int .i64 n] w fun r w' => r = .returned (.bool (alignedV e n)) ∧ w = w' := by
  by_cases h : 0 ≤ n ∧ n ≤ 2
  · exact Aligned_one e n he h w
  · have HK := Lib.hid (known_no h)
    have HC := Lib.hid (fun W => known_c n hn W)
    rw [HK.out] at HC
    unfold alignedV
    rw [HK.out]
    clear h
    go_enter Try.func99, Try.ntmps99
    go_wp2_with fail
    refine (HC.out _).mono ?_
    rintro r w' ⟨rfl, rfl⟩
    go_wp2_with fail
    go_ret
    exact ⟨rfl, rfl⟩
end Go.Proofs.Ytkfmcbhoendocaa
