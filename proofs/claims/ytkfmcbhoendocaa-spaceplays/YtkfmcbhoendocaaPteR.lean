/-
  What the document's own answer (package suzerainref10) answers: contracts over the translation, by the program's plain functions.
  Conditions: the arguments are numbers of their kinds.
-/
import Derived.Test.YtkfmcbhoendocaaLayPt
import Derived.Deep.QuietTactic
namespace Go.Proofs.Ytkfmcbhoendocaa
open Go Go.RowKit W M A P
set_option linter.unusedVariables false
set_option linter.unusedSimpArgs false

theorem rbit_c (e : Int) (k : Nat) (p : Int) (hk : k < 64) (hp : (2 : Int) ^ k = p) (he : B64 e) (w : World) :
    Calls Try.prog 105 #[.int .u64 e, .int .i64 k] w fun r w' => r = .returned (.bool (bt e p)) ∧ w = w' := by
  subst hp
  have hd : B64 (e / 2 ^ k) := div_bd e _ he (pow_pos' k)
  have HA := Lib.hid (a1 (e / 2 ^ k) hd)
  unfold B64 at he
  go_enter Try.func105, Try.ntmps105
  go_wp2_with fail
  go_ret
  exact ⟨pret_boo (by simp only [HA.out, bt]; exact beq_dec _ _), rfl⟩
theorem rlevel_c (n : Int) (hn : I64 n) (w : World) :
    Calls Try.prog 106 #[.int .i64 n] w fun e w' => e = .returned (.bool (knownV n)) ∧ w = w' := by
  unfold I64 at hn
  by_cases h1 : 0 ≤ n
  · by_cases h2 : n ≤ 2
    · rw [known_yes ⟨h1, h2⟩]
      go_enter Try.func106, Try.ntmps106
      go_wp2_with fail
      go_ret
      exact ⟨rfl, rfl⟩
    · rw [known_no (by omega)]
      go_enter Try.func106, Try.ntmps106
      go_wp2_with fail
      go_ret
      exact ⟨rfl, rfl⟩
  · rw [known_no (by omega)]
    go_enter Try.func106, Try.ntmps106
    go_wp2_with fail
    go_ret
    exact ⟨rfl, rfl⟩
theorem rPage_c (e : Int) (he : B64 e) (w : World) :
    Calls Try.prog 107 #[.int .u64 e] w fun r w' => r = .returned (.int .u64 (pageV e)) ∧ w = w' := by
  unfold B64 at he
  go_enter Try.func107, Try.ntmps107
  go_wp2_with fail
  go_ret
  exact ⟨rfl, rfl⟩
set_option maxHeartbeats 1000000 in
theorem rValid_c (e : Int) (he0 : B64 e) (w : World) :
    Calls Try.prog 137 #[.int .u64 e] w fun r w' => r = .returned (.bool (validV e)) ∧ w = w' := by
  have he := Lib.hid he0
  unfold B64 at he0
  by_cases hz : e / 18014398509481984 = 0
  all_goals
    go_enter Try.func137, Try.ntmps137
    go_wp2_with fail
    refine (rbit_c e 0 1 (by omega) (by decide) he.out _).mono ?_
    rintro r w' ⟨rfl, rfl⟩
    cases he0 : bt e 1 with
    | false =>
      go_wp2_with fail
      go_ret
      exact ⟨pret_boo (by simp [validV, *]), rfl⟩
    | true =>
      go_wp2_with fail
      refine (rbit_c e 2 4 (by omega) (by decide) he.out _).mono ?_
      rintro r w' ⟨rfl, rfl⟩
      cases he2 : bt e 4 with
      | false =>
        go_wp2_with fail
        go_ret
        exact ⟨pret_boo (by simp [validV, *]), rfl⟩
      | true =>
        go_wp2_with fail
        refine (rbit_c e 1 2 (by omega) (by decide) he.out _).mono ?_
        rintro r w' ⟨rfl, rfl⟩
        cases he1 : bt e 2 with
        | false =>
          go_wp2_with fail
          go_ret
          exact ⟨pret_boo (by simp [validV, *]), rfl⟩
        | true =>
          go_wp2_with fail
          go_ret
          exact ⟨pret_boo (by simp [validV, *]), rfl⟩
set_option maxHeartbeats 1000000 in
theorem rLeaf_c (e : Int) (he0 : B64 e) (w : World) :
    Calls Try.prog 104 #[.int .u64 e] w fun r w' => r = .returned (.bool (leafV e)) ∧ w = w' := by
  have he := Lib.hid he0
  clear he0
  go_enter Try.func104, Try.ntmps104
  go_wp2_with fail
  refine (rValid_c e he.out _).mono ?_
  rintro r w' ⟨rfl, rfl⟩
  cases hv : validV e with
  | false =>
    go_wp2_with fail
    go_ret
    exact ⟨pret_boo (by simp [leafV, *]), rfl⟩
  | true =>
    go_wp2_with fail
    refine (rbit_c e 1 2 (by omega) (by decide) he.out _).mono ?_
    rintro r w' ⟨rfl, rfl⟩
    cases he1 : bt e 2 with
    | false =>
      go_wp2_with fail
      refine (rbit_c e 3 8 (by omega) (by decide) he.out _).mono ?_
      rintro r w' ⟨rfl, rfl⟩
      cases he3 : bt e 8 with
      | false =>
        go_wp2_with fail
        go_ret
        exact ⟨pret_boo (by simp [leafV, *]), rfl⟩
      | true =>
        go_wp2_with fail
        go_ret
        exact ⟨pret_boo (by simp [leafV, *]), rfl⟩
    | true =>
      go_wp2_with fail
      go_ret
      exact ⟨pret_boo (by simp [leafV, *]), rfl⟩
set_option maxHeartbeats 1000000 in
theorem rTable_c (e : Int) (he0 : B64 e) (w : World) :
    Calls Try.prog 109 #[.int .u64 e] w fun r w' => r = .returned (.bool (tableV e)) ∧ w = w' := by
  have he := Lib.hid he0
  clear he0
  go_enter Try.func109, Try.ntmps109
  go_wp2_with fail
  refine (rValid_c e he.out _).mono ?_
  rintro r w' ⟨rfl, rfl⟩
  cases hv : validV e with
  | false =>
    go_wp2_with fail
    go_ret
    exact ⟨pret_boo (by simp [tableV, *]), rfl⟩
  | true =>
    go_wp2_with fail
    refine (rbit_c e 1 2 (by omega) (by decide) he.out _).mono ?_
    rintro r w' ⟨rfl, rfl⟩
    cases he1 : bt e 2 with
    | false =>
      go_wp2_with fail
      refine (rbit_c e 2 4 (by omega) (by decide) he.out _).mono ?_
      rintro r w' ⟨rfl, rfl⟩
      cases he2 : bt e 4 with
      | false =>
        go_wp2_with fail
        refine (rbit_c e 3 8 (by omega) (by decide) he.out _).mono ?_
        rintro r w' ⟨rfl, rfl⟩
        cases he3 : bt e 8 with
        | false =>
          go_wp2_with fail
          refine (rbit_c e 4 16 (by omega) (by decide) he.out _).mono ?_
          rintro r w' ⟨rfl, rfl⟩
          cases he4 : bt e 16 with
          | false =>
            go_wp2_with fail
            refine (rbit_c e 6 64 (by omega) (by decide) he.out _).mono ?_
            rintro r w' ⟨rfl, rfl⟩
            cases he6 : bt e 64 with
            | false =>
              go_wp2_with fail
              refine (rbit_c e 7 128 (by omega) (by decide) he.out _).mono ?_
              rintro r w' ⟨rfl, rfl⟩
              cases he7 : bt e 128 with
              | false =>
                go_wp2_with fail
                go_ret
                exact ⟨pret_boo (by simp [tableV, *]), rfl⟩
              | true =>
                go_wp2_with fail
                go_ret
                exact ⟨pret_boo (by simp [tableV, *]), rfl⟩
            | true =>
              go_wp2_with fail
              go_ret
              exact ⟨pret_boo (by simp [tableV, *]), rfl⟩
          | true =>
            go_wp2_with fail
            go_ret
            exact ⟨pret_boo (by simp [tableV, *]), rfl⟩
        | true =>
          go_wp2_with fail
          go_ret
          exact ⟨pret_boo (by simp [tableV, *]), rfl⟩
      | true =>
        go_wp2_with fail
        go_ret
        exact ⟨pret_boo (by simp [tableV, *]), rfl⟩
    | true =>
      go_wp2_with fail
      go_ret
      exact ⟨pret_boo (by simp [tableV, *]), rfl⟩
theorem rCanonical_c (va : Int) (hv : B64 va) (w : World) :
    Calls Try.prog 74 #[.int .u64 va] w fun r w' => r = .returned (.bool (canonV va)) ∧ w = w' := by
  unfold B64 at hv
  unfold canonV
  by_cases h1 : va / 274877906944 = 0
  · go_enter Try.func74, Try.ntmps74
    go_wp2_with fail
    go_ret
    exact ⟨pret_boo (by simp [h1]), rfl⟩
  · by_cases h2 : va / 274877906944 = 67108863
    · go_enter Try.func74, Try.ntmps74
      go_wp2_with fail
      go_ret
      exact ⟨pret_boo (by simp [h2]), rfl⟩
    · go_enter Try.func74, Try.ntmps74
      go_wp2_with fail
      go_ret
      exact ⟨pret_boo (by simp [h1, h2]), rfl⟩
theorem rVpn_c (va n : Int) (hv : B64 va) (hn : I64 n) (w : World) :
    Calls Try.prog 108 #[.int .u64 va, .int .i64 n] w fun r w' => r = .returned (.int .u64 (vpnV va n)) ∧ w = w' := by
  have HC := Lib.hid (fun W => rlevel_c n hn W)
  unfold B64 at hv
  unfold vpnV
  by_cases h : 0 ≤ n ∧ n ≤ 2
  · rw [known_yes h] at *
    rcases (show n = 0 ∨ n = 1 ∨ n = 2 by omega) with rfl | rfl | rfl
    all_goals
      clear h hn
      go_enter Try.func108, Try.ntmps108
      go_wp2_with fail
      refine (HC.out _).mono ?_
      rintro r w' ⟨rfl, rfl⟩
      go_wp2_with fail
      go_ret
      exact ⟨rfl, rfl⟩
  · rw [known_no h] at *
    clear h
    go_enter Try.func108, Try.ntmps108
    go_wp2_with fail
    refine (HC.out _).mono ?_
    rintro r w' ⟨rfl, rfl⟩
    go_wp2_with fail
    go_ret
    exact ⟨rfl, rfl⟩
end Go.Proofs.Ytkfmcbhoendocaa
