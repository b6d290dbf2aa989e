/-
  What the document's own answer (package suzerainref10) answers, on: May, Aligned, At.
  Conditions: the arguments are numbers of their kinds.
-/
import Derived.Test.YtkfmcbhoendocaaPteR
namespace Go.Proofs.Ytkfmcbhoendocaa
open Go Go.RowKit W M A P
set_option linter.unusedVariables false
set_option linter.unusedSimpArgs false

/-- A call that leaves the world as it is, met in a region that only reads. -/
theorem pquietly {P : Program} {f : FuncId} {args : Array Value} {W : World} {v : Value} {Q : World → Prop}
    (h : Calls P f args W fun e w' => e = .returned v ∧ W = w') (hQ : Q W) : Calls P f args W fun e w'' => e = .returned v ∧ Q w'' :=
  h.mono fun _ _ ⟨he, hw⟩ => ⟨he, hw ▸ hQ⟩

set_option maxHeartbeats 4000000 in
theorem rMay_00 (e s : Int) (he0 : B64 e) (hs0 : B64 s)  (w : World) :
    Calls Try.prog 75 #[.int .u64 e, .int .i64 0, .int .i64 0, .int .u64 s] w fun r w' => r = .returned (.bool (mayV e 0 0 s)) ∧ w = w' := by
  have he := Lib.hid he0
  have hs := Lib.hid hs0
  clear he0 hs0
  go_enter Try.func75, Try.ntmps75
  go_wp2_with fail
  refine (rLeaf_c e he.out _).mono ?_
  rintro r w' ⟨rfl, rfl⟩
  cases hv : leafV e with
  | false =>
    go_wp2_with fail
    go_ret
    exact ⟨pret_boo (by simp [mayV, byKindV, byPrivV, *]), rfl⟩
  | true =>
    go_wp2_with fail
    refine (rbit_c e 6 64 (by omega) (by decide) he.out _).mono ?_
    rintro r w' ⟨rfl, rfl⟩
    cases he6 : bt e 64 with
    | false =>
      go_wp2_with fail
      go_ret
      exact ⟨pret_boo (by simp [mayV, byKindV, byPrivV, *]), rfl⟩
    | true =>
      go_wp2_with fail
      refine (rbit_c e 3 8 (by omega) (by decide) he.out _).mono ?_
      rintro r w' ⟨rfl, rfl⟩
      cases he3 : bt e 8 with
      | false =>
        go_wp2_with fail
        refine (rbit_c e 4 16 (by omega) (by decide) he.out _).mono ?_
        rintro r w' ⟨rfl, rfl⟩
        cases he4 : bt e 16 with
        | false =>
          go_wp2_with fail
          go_ret
          exact ⟨pret_boo (by simp [mayV, byKindV, byPrivV, *]), rfl⟩
        | true =>
          go_wp2_with fail
          go_ret
          exact ⟨pret_boo (by simp [mayV, byKindV, byPrivV, *]), rfl⟩
      | true =>
        go_wp2_with fail
        refine (rbit_c e 4 16 (by omega) (by decide) he.out _).mono ?_
        rintro r w' ⟨rfl, rfl⟩
        cases he4 : bt e 16 with
        | false =>
          go_wp2_with fail
          go_ret
          exact ⟨pret_boo (by simp [mayV, byKindV, byPrivV, *]), rfl⟩
        | true =>
          go_wp2_with fail
          go_ret
          exact ⟨pret_boo (by simp [mayV, byKindV, byPrivV, *]), rfl⟩
set_option maxHeartbeats 4000000 in
theorem rMay_01 (e s : Int) (he0 : B64 e) (hs0 : B64 s)  (w : World) :
    Calls Try.prog 75 #[.int .u64 e, .int .i64 0, .int .i64 1, .int .u64 s] w fun r w' => r = .returned (.bool (mayV e 0 1 s)) ∧ w = w' := by
  have he := Lib.hid he0
  have hs := Lib.hid hs0
  clear he0 hs0
  go_enter Try.func75, Try.ntmps75
  go_wp2_with fail
  refine (rLeaf_c e he.out _).mono ?_
  rintro r w' ⟨rfl, rfl⟩
  cases hv : leafV e with
  | false =>
    go_wp2_with fail
    go_ret
    exact ⟨pret_boo (by simp [mayV, byKindV, byPrivV, *]), rfl⟩
  | true =>
    go_wp2_with fail
    refine (rbit_c e 6 64 (by omega) (by decide) he.out _).mono ?_
    rintro r w' ⟨rfl, rfl⟩
    cases he6 : bt e 64 with
    | false =>
      go_wp2_with fail
      go_ret
      exact ⟨pret_boo (by simp [mayV, byKindV, byPrivV, *]), rfl⟩
    | true =>
      go_wp2_with fail
      refine (rbit_c e 3 8 (by omega) (by decide) he.out _).mono ?_
      rintro r w' ⟨rfl, rfl⟩
      cases he3 : bt e 8 with
      | false =>
        go_wp2_with fail
        refine (rbit_c e 4 16 (by omega) (by decide) he.out _).mono ?_
        rintro r w' ⟨rfl, rfl⟩
        cases he4 : bt e 16 with
        | false =>
          go_wp2_with fail
          go_ret
          exact ⟨pret_boo (by simp [mayV, byKindV, byPrivV, *]), rfl⟩
        | true =>
          go_wp2_with fail
          go_ret
          exact ⟨pret_boo (by simp [mayV, byKindV, byPrivV, *]), rfl⟩
      | true =>
        go_wp2_with fail
        refine (rbit_c e 4 16 (by omega) (by decide) he.out _).mono ?_
        rintro r w' ⟨rfl, rfl⟩
        cases he4 : bt e 16 with
        | false =>
          go_wp2_with fail
          go_ret
          exact ⟨pret_boo (by simp [mayV, byKindV, byPrivV, *]), rfl⟩
        | true =>
          go_wp2_with fail
          go_ret
          exact ⟨pret_boo (by simp [mayV, byKindV, byPrivV, *]), rfl⟩
set_option maxHeartbeats 4000000 in
theorem rMay_02 (e s : Int) (he0 : B64 e) (hs0 : B64 s) (priv : Int) (hp : I64 priv) (p0 : ¬ priv = 0) (p1 : ¬ priv = 1) (w : World) :
    Calls Try.prog 75 #[.int .u64 e, .int .i64 0, .int .i64 priv, .int .u64 s] w fun r w' => r = .returned (.bool (mayV e 0 priv s)) ∧ w = w' := by
  have he := Lib.hid he0
  have hs := Lib.hid hs0
  clear he0 hs0
  unfold I64 at hp
  go_enter Try.func75, Try.ntmps75
  go_wp2_with fail
  refine (rLeaf_c e he.out _).mono ?_
  rintro r w' ⟨rfl, rfl⟩
  cases hv : leafV e with
  | false =>
    go_wp2_with fail
    go_ret
    exact ⟨pret_boo (by simp [mayV, byKindV, byPrivV, *]), rfl⟩
  | true =>
    go_wp2_with fail
    refine (rbit_c e 6 64 (by omega) (by decide) he.out _).mono ?_
    rintro r w' ⟨rfl, rfl⟩
    cases he6 : bt e 64 with
    | false =>
      go_wp2_with fail
      go_ret
      exact ⟨pret_boo (by simp [mayV, byKindV, byPrivV, *]), rfl⟩
    | true =>
      go_wp2_with fail
      refine (rbit_c e 3 8 (by omega) (by decide) he.out _).mono ?_
      rintro r w' ⟨rfl, rfl⟩
      cases he3 : bt e 8 with
      | false =>
        go_wp2_with fail
        refine (rbit_c e 4 16 (by omega) (by decide) he.out _).mono ?_
        rintro r w' ⟨rfl, rfl⟩
        cases he4 : bt e 16 with
        | false =>
          go_wp2_with fail
          go_ret
          exact ⟨pret_boo (by simp [mayV, byKindV, byPrivV, *]), rfl⟩
        | true =>
          go_wp2_with fail
          go_ret
          exact ⟨pret_boo (by simp [mayV, byKindV, byPrivV, *]), rfl⟩
      | true =>
        go_wp2_with fail
        refine (rbit_c e 4 16 (by omega) (by decide) he.out _).mono ?_
        rintro r w' ⟨rfl, rfl⟩
        cases he4 : bt e 16 with
        | false =>
          go_wp2_with fail
          go_ret
          exact ⟨pret_boo (by simp [mayV, byKindV, byPrivV, *]), rfl⟩
        | true =>
          go_wp2_with fail
          go_ret
          exact ⟨pret_boo (by simp [mayV, byKindV, byPrivV, *]), rfl⟩
set_option maxHeartbeats 4000000 in
theorem rMay_10 (e s : Int) (he0 : B64 e) (hs0 : B64 s)  (w : World) :
    Calls Try.prog 75 #[.int .u64 e, .int .i64 1, .int .i64 0, .int .u64 s] w fun r w' => r = .returned (.bool (mayV e 1 0 s)) ∧ w = w' := by
  have he := Lib.hid he0
  have hs := Lib.hid hs0
  clear he0 hs0
  go_enter Try.func75, Try.ntmps75
  go_wp2_with fail
  refine (rLeaf_c e he.out _).mono ?_
  rintro r w' ⟨rfl, rfl⟩
  cases hv : leafV e with
  | false =>
    go_wp2_with fail
    go_ret
    exact ⟨pret_boo (by simp [mayV, byKindV, byPrivV, *]), rfl⟩
  | true =>
    go_wp2_with fail
    refine (rbit_c e 6 64 (by omega) (by decide) he.out _).mono ?_
    rintro r w' ⟨rfl, rfl⟩
    cases he6 : bt e 64 with
    | false =>
      go_wp2_with fail
      go_ret
      exact ⟨pret_boo (by simp [mayV, byKindV, byPrivV, *]), rfl⟩
    | true =>
      go_wp2_with fail
      refine (rbit_c e 1 2 (by omega) (by decide) he.out _).mono ?_
      rintro r w' ⟨rfl, rfl⟩
      cases he1 : bt e 2 with
      | false =>
        go_wp2_with fail
        refine (rbit_c s 19 524288 (by omega) (by decide) hs.out _).mono ?_
        rintro r w' ⟨rfl, rfl⟩
        cases hs19 : bt s 524288 with
        | false =>
          go_wp2_with fail
          refine (rbit_c e 4 16 (by omega) (by decide) he.out _).mono ?_
          rintro r w' ⟨rfl, rfl⟩
          cases he4 : bt e 16 with
          | false =>
            go_wp2_with fail
            go_ret
            exact ⟨pret_boo (by simp [mayV, byKindV, byPrivV, *]), rfl⟩
          | true =>
            go_wp2_with fail
            go_ret
            exact ⟨pret_boo (by simp [mayV, byKindV, byPrivV, *]), rfl⟩
        | true =>
          go_wp2_with fail
          refine (rbit_c e 3 8 (by omega) (by decide) he.out _).mono ?_
          rintro r w' ⟨rfl, rfl⟩
          cases he3 : bt e 8 with
          | false =>
            go_wp2_with fail
            refine (rbit_c e 4 16 (by omega) (by decide) he.out _).mono ?_
            rintro r w' ⟨rfl, rfl⟩
            cases he4 : bt e 16 with
            | false =>
              go_wp2_with fail
              go_ret
              exact ⟨pret_boo (by simp [mayV, byKindV, byPrivV, *]), rfl⟩
            | true =>
              go_wp2_with fail
              go_ret
              exact ⟨pret_boo (by simp [mayV, byKindV, byPrivV, *]), rfl⟩
          | true =>
            go_wp2_with fail
            refine (rbit_c e 4 16 (by omega) (by decide) he.out _).mono ?_
            rintro r w' ⟨rfl, rfl⟩
            cases he4 : bt e 16 with
            | false =>
              go_wp2_with fail
              go_ret
              exact ⟨pret_boo (by simp [mayV, byKindV, byPrivV, *]), rfl⟩
            | true =>
              go_wp2_with fail
              go_ret
              exact ⟨pret_boo (by simp [mayV, byKindV, byPrivV, *]), rfl⟩
      | true =>
        go_wp2_with fail
        refine (rbit_c e 4 16 (by omega) (by decide) he.out _).mono ?_
        rintro r w' ⟨rfl, rfl⟩
        cases he4 : bt e 16 with
        | false =>
          go_wp2_with fail
          go_ret
          exact ⟨pret_boo (by simp [mayV, byKindV, byPrivV, *]), rfl⟩
        | true =>
          go_wp2_with fail
          go_ret
          exact ⟨pret_boo (by simp [mayV, byKindV, byPrivV, *]), rfl⟩
set_option maxHeartbeats 4000000 in
theorem rMay_11 (e s : Int) (he0 : B64 e) (hs0 : B64 s)  (w : World) :
    Calls Try.prog 75 #[.int .u64 e, .int .i64 1, .int .i64 1, .int .u64 s] w fun r w' => r = .returned (.bool (mayV e 1 1 s)) ∧ w = w' := by
  have he := Lib.hid he0
  have hs := Lib.hid hs0
  clear he0 hs0
  go_enter Try.func75, Try.ntmps75
  go_wp2_with fail
  refine (rLeaf_c e he.out _).mono ?_
  rintro r w' ⟨rfl, rfl⟩
  cases hv : leafV e with
  | false =>
    go_wp2_with fail
    go_ret
    exact ⟨pret_boo (by simp [mayV, byKindV, byPrivV, *]), rfl⟩
  | true =>
    go_wp2_with fail
    refine (rbit_c e 6 64 (by omega) (by decide) he.out _).mono ?_
    rintro r w' ⟨rfl, rfl⟩
    cases he6 : bt e 64 with
    | false =>
      go_wp2_with fail
      go_ret
      exact ⟨pret_boo (by simp [mayV, byKindV, byPrivV, *]), rfl⟩
    | true =>
      go_wp2_with fail
      refine (rbit_c e 1 2 (by omega) (by decide) he.out _).mono ?_
      rintro r w' ⟨rfl, rfl⟩
      cases he1 : bt e 2 with
      | false =>
        go_wp2_with fail
        refine (rbit_c s 19 524288 (by omega) (by decide) hs.out _).mono ?_
        rintro r w' ⟨rfl, rfl⟩
        cases hs19 : bt s 524288 with
        | false =>
          go_wp2_with fail
          refine (rbit_c e 4 16 (by omega) (by decide) he.out _).mono ?_
          rintro r w' ⟨rfl, rfl⟩
          cases he4 : bt e 16 with
          | false =>
            go_wp2_with fail
            go_ret
            exact ⟨pret_boo (by simp [mayV, byKindV, byPrivV, *]), rfl⟩
          | true =>
            go_wp2_with fail
            go_ret
            exact ⟨pret_boo (by simp [mayV, byKindV, byPrivV, *]), rfl⟩
        | true =>
          go_wp2_with fail
          refine (rbit_c e 3 8 (by omega) (by decide) he.out _).mono ?_
          rintro r w' ⟨rfl, rfl⟩
          cases he3 : bt e 8 with
          | false =>
            go_wp2_with fail
            refine (rbit_c e 4 16 (by omega) (by decide) he.out _).mono ?_
            rintro r w' ⟨rfl, rfl⟩
            cases he4 : bt e 16 with
            | false =>
              go_wp2_with fail
              go_ret
              exact ⟨pret_boo (by simp [mayV, byKindV, byPrivV, *]), rfl⟩
            | true =>
              go_wp2_with fail
              go_ret
              exact ⟨pret_boo (by simp [mayV, byKindV, byPrivV, *]), rfl⟩
          | true =>
            go_wp2_with fail
            refine (rbit_c e 4 16 (by omega) (by decide) he.out _).mono ?_
            rintro r w' ⟨rfl, rfl⟩
            cases he4 : bt e 16 with
            | false =>
              go_wp2_with fail
              go_ret
              exact ⟨pret_boo (by simp [mayV, byKindV, byPrivV, *]), rfl⟩
            | true =>
              go_wp2_with fail
              refine (rbit_c s 18 262144 (by omega) (by decide) hs.out _).mono ?_
              rintro r w' ⟨rfl, rfl⟩
              cases hs18 : bt s 262144 with
              | false =>
                go_wp2_with fail
                go_ret
                exact ⟨pret_boo (by simp [mayV, byKindV, byPrivV, *]), rfl⟩
              | true =>
                go_wp2_with fail
                go_ret
                exact ⟨pret_boo (by simp [mayV, byKindV, byPrivV, *]), rfl⟩
      | true =>
        go_wp2_with fail
        refine (rbit_c e 4 16 (by omega) (by decide) he.out _).mono ?_
        rintro r w' ⟨rfl, rfl⟩
        cases he4 : bt e 16 with
        | false =>
          go_wp2_with fail
          go_ret
          exact ⟨pret_boo (by simp [mayV, byKindV, byPrivV, *]), rfl⟩
        | true =>
          go_wp2_with fail
          refine (rbit_c s 18 262144 (by omega) (by decide) hs.out _).mono ?_
          rintro r w' ⟨rfl, rfl⟩
          cases hs18 : bt s 262144 with
          | false =>
            go_wp2_with fail
            go_ret
            exact ⟨pret_boo (by simp [mayV, byKindV, byPrivV, *]), rfl⟩
          | true =>
            go_wp2_with fail
            go_ret
            exact ⟨pret_boo (by simp [mayV, byKindV, byPrivV, *]), rfl⟩
set_option maxHeartbeats 4000000 in
theorem rMay_12 (e s : Int) (he0 : B64 e) (hs0 : B64 s) (priv : Int) (hp : I64 priv) (p0 : ¬ priv = 0) (p1 : ¬ priv = 1) (w : World) :
    Calls Try.prog 75 #[.int .u64 e, .int .i64 1, .int .i64 priv, .int .u64 s] w fun r w' => r = .returned (.bool (mayV e 1 priv s)) ∧ w = w' := by
  have he := Lib.hid he0
  have hs := Lib.hid hs0
  clear he0 hs0
  unfold I64 at hp
  go_enter Try.func75, Try.ntmps75
  go_wp2_with fail
  refine (rLeaf_c e he.out _).mono ?_
  rintro r w' ⟨rfl, rfl⟩
  cases hv : leafV e with
  | false =>
    go_wp2_with fail
    go_ret
    exact ⟨pret_boo (by simp [mayV, byKindV, byPrivV, *]), rfl⟩
  | true =>
    go_wp2_with fail
    refine (rbit_c e 6 64 (by omega) (by decide) he.out _).mono ?_
    rintro r w' ⟨rfl, rfl⟩
    cases he6 : bt e 64 with
    | false =>
      go_wp2_with fail
      go_ret
      exact ⟨pret_boo (by simp [mayV, byKindV, byPrivV, *]), rfl⟩
    | true =>
      go_wp2_with fail
      refine (rbit_c e 1 2 (by omega) (by decide) he.out _).mono ?_
      rintro r w' ⟨rfl, rfl⟩
      cases he1 : bt e 2 with
      | false =>
        go_wp2_with fail
        refine (rbit_c s 19 524288 (by omega) (by decide) hs.out _).mono ?_
        rintro r w' ⟨rfl, rfl⟩
        cases hs19 : bt s 524288 with
        | false =>
          go_wp2_with fail
          refine (rbit_c e 4 16 (by omega) (by decide) he.out _).mono ?_
          rintro r w' ⟨rfl, rfl⟩
          cases he4 : bt e 16 with
          | false =>
            go_wp2_with fail
            go_ret
            exact ⟨pret_boo (by simp [mayV, byKindV, byPrivV, *]), rfl⟩
          | true =>
            go_wp2_with fail
            go_ret
            exact ⟨pret_boo (by simp [mayV, byKindV, byPrivV, *]), rfl⟩
        | true =>
          go_wp2_with fail
          refine (rbit_c e 3 8 (by omega) (by decide) he.out _).mono ?_
          rintro r w' ⟨rfl, rfl⟩
          cases he3 : bt e 8 with
          | false =>
            go_wp2_with fail
            refine (rbit_c e 4 16 (by omega) (by decide) he.out _).mono ?_
            rintro r w' ⟨rfl, rfl⟩
            cases he4 : bt e 16 with
            | false =>
              go_wp2_with fail
              go_ret
              exact ⟨pret_boo (by simp [mayV, byKindV, byPrivV, *]), rfl⟩
            | true =>
              go_wp2_with fail
              go_ret
              exact ⟨pret_boo (by simp [mayV, byKindV, byPrivV, *]), rfl⟩
          | true =>
            go_wp2_with fail
            refine (rbit_c e 4 16 (by omega) (by decide) he.out _).mono ?_
            rintro r w' ⟨rfl, rfl⟩
            cases he4 : bt e 16 with
            | false =>
              go_wp2_with fail
              go_ret
              exact ⟨pret_boo (by simp [mayV, byKindV, byPrivV, *]), rfl⟩
            | true =>
              go_wp2_with fail
              go_ret
              exact ⟨pret_boo (by simp [mayV, byKindV, byPrivV, *]), rfl⟩
      | true =>
        go_wp2_with fail
        refine (rbit_c e 4 16 (by omega) (by decide) he.out _).mono ?_
        rintro r w' ⟨rfl, rfl⟩
        cases he4 : bt e 16 with
        | false =>
          go_wp2_with fail
          go_ret
          exact ⟨pret_boo (by simp [mayV, byKindV, byPrivV, *]), rfl⟩
        | true =>
          go_wp2_with fail
          go_ret
          exact ⟨pret_boo (by simp [mayV, byKindV, byPrivV, *]), rfl⟩
set_option maxHeartbeats 4000000 in
theorem rMay_20 (e s : Int) (he0 : B64 e) (hs0 : B64 s)  (w : World) :
    Calls Try.prog 75 #[.int .u64 e, .int .i64 2, .int .i64 0, .int .u64 s] w fun r w' => r = .returned (.bool (mayV e 2 0 s)) ∧ w = w' := by
  have he := Lib.hid he0
  have hs := Lib.hid hs0
  clear he0 hs0
  go_enter Try.func75, Try.ntmps75
  go_wp2_with fail
  refine (rLeaf_c e he.out _).mono ?_
  rintro r w' ⟨rfl, rfl⟩
  cases hv : leafV e with
  | false =>
    go_wp2_with fail
    go_ret
    exact ⟨pret_boo (by simp [mayV, byKindV, byPrivV, *]), rfl⟩
  | true =>
    go_wp2_with fail
    refine (rbit_c e 6 64 (by omega) (by decide) he.out _).mono ?_
    rintro r w' ⟨rfl, rfl⟩
    cases he6 : bt e 64 with
    | false =>
      go_wp2_with fail
      go_ret
      exact ⟨pret_boo (by simp [mayV, byKindV, byPrivV, *]), rfl⟩
    | true =>
      go_wp2_with fail
      refine (rbit_c e 2 4 (by omega) (by decide) he.out _).mono ?_
      rintro r w' ⟨rfl, rfl⟩
      cases he2 : bt e 4 with
      | false =>
        go_wp2_with fail
        refine (rbit_c e 4 16 (by omega) (by decide) he.out _).mono ?_
        rintro r w' ⟨rfl, rfl⟩
        cases he4 : bt e 16 with
        | false =>
          go_wp2_with fail
          go_ret
          exact ⟨pret_boo (by simp [mayV, byKindV, byPrivV, *]), rfl⟩
        | true =>
          go_wp2_with fail
          go_ret
          exact ⟨pret_boo (by simp [mayV, byKindV, byPrivV, *]), rfl⟩
      | true =>
        go_wp2_with fail
        refine (rbit_c e 7 128 (by omega) (by decide) he.out _).mono ?_
        rintro r w' ⟨rfl, rfl⟩
        cases he7 : bt e 128 with
        | false =>
          go_wp2_with fail
          refine (rbit_c e 4 16 (by omega) (by decide) he.out _).mono ?_
          rintro r w' ⟨rfl, rfl⟩
          cases he4 : bt e 16 with
          | false =>
            go_wp2_with fail
            go_ret
            exact ⟨pret_boo (by simp [mayV, byKindV, byPrivV, *]), rfl⟩
          | true =>
            go_wp2_with fail
            go_ret
            exact ⟨pret_boo (by simp [mayV, byKindV, byPrivV, *]), rfl⟩
        | true =>
          go_wp2_with fail
          refine (rbit_c e 4 16 (by omega) (by decide) he.out _).mono ?_
          rintro r w' ⟨rfl, rfl⟩
          cases he4 : bt e 16 with
          | false =>
            go_wp2_with fail
            go_ret
            exact ⟨pret_boo (by simp [mayV, byKindV, byPrivV, *]), rfl⟩
          | true =>
            go_wp2_with fail
            go_ret
            exact ⟨pret_boo (by simp [mayV, byKindV, byPrivV, *]), rfl⟩
set_option maxHeartbeats 4000000 in
theorem rMay_21 (e s : Int) (he0 : B64 e) (hs0 : B64 s)  (w : World) :
    Calls Try.prog 75 #[.int .u64 e, .int .i64 2, .int .i64 1, .int .u64 s] w fun r w' => r = .returned (.bool (mayV e 2 1 s)) ∧ w = w' := by
  have he := Lib.hid he0
  have hs := Lib.hid hs0
  clear he0 hs0
  go_enter Try.func75, Try.ntmps75
  go_wp2_with fail
  refine (rLeaf_c e he.out _).mono ?_
  rintro r w' ⟨rfl, rfl⟩
  cases hv : leafV e with
  | false =>
    go_wp2_with fail
    go_ret
    exact ⟨pret_boo (by simp [mayV, byKindV, byPrivV, *]), rfl⟩
  | true =>
    go_wp2_with fail
    refine (rbit_c e 6 64 (by omega) (by decide) he.out _).mono ?_
    rintro r w' ⟨rfl, rfl⟩
    cases he6 : bt e 64 with
    | false =>
      go_wp2_with fail
      go_ret
      exact ⟨pret_boo (by simp [mayV, byKindV, byPrivV, *]), rfl⟩
    | true =>
      go_wp2_with fail
      refine (rbit_c e 2 4 (by omega) (by decide) he.out _).mono ?_
      rintro r w' ⟨rfl, rfl⟩
      cases he2 : bt e 4 with
      | false =>
        go_wp2_with fail
        refine (rbit_c e 4 16 (by omega) (by decide) he.out _).mono ?_
        rintro r w' ⟨rfl, rfl⟩
        cases he4 : bt e 16 with
        | false =>
          go_wp2_with fail
          go_ret
          exact ⟨pret_boo (by simp [mayV, byKindV, byPrivV, *]), rfl⟩
        | true =>
          go_wp2_with fail
          go_ret
          exact ⟨pret_boo (by simp [mayV, byKindV, byPrivV, *]), rfl⟩
      | true =>
        go_wp2_with fail
        refine (rbit_c e 7 128 (by omega) (by decide) he.out _).mono ?_
        rintro r w' ⟨rfl, rfl⟩
        cases he7 : bt e 128 with
        | false =>
          go_wp2_with fail
          refine (rbit_c e 4 16 (by omega) (by decide) he.out _).mono ?_
          rintro r w' ⟨rfl, rfl⟩
          cases he4 : bt e 16 with
          | false =>
            go_wp2_with fail
            go_ret
            exact ⟨pret_boo (by simp [mayV, byKindV, byPrivV, *]), rfl⟩
          | true =>
            go_wp2_with fail
            go_ret
            exact ⟨pret_boo (by simp [mayV, byKindV, byPrivV, *]), rfl⟩
        | true =>
          go_wp2_with fail
          refine (rbit_c e 4 16 (by omega) (by decide) he.out _).mono ?_
          rintro r w' ⟨rfl, rfl⟩
          cases he4 : bt e 16 with
          | false =>
            go_wp2_with fail
            go_ret
            exact ⟨pret_boo (by simp [mayV, byKindV, byPrivV, *]), rfl⟩
          | true =>
            go_wp2_with fail
            refine (rbit_c s 18 262144 (by omega) (by decide) hs.out _).mono ?_
            rintro r w' ⟨rfl, rfl⟩
            cases hs18 : bt s 262144 with
            | false =>
              go_wp2_with fail
              go_ret
              exact ⟨pret_boo (by simp [mayV, byKindV, byPrivV, *]), rfl⟩
            | true =>
              go_wp2_with fail
              go_ret
              exact ⟨pret_boo (by simp [mayV, byKindV, byPrivV, *]), rfl⟩
set_option maxHeartbeats 4000000 in
theorem rMay_22 (e s : Int) (he0 : B64 e) (hs0 : B64 s) (priv : Int) (hp : I64 priv) (p0 : ¬ priv = 0) (p1 : ¬ priv = 1) (w : World) :
    Calls Try.prog 75 #[.int .u64 e, .int .i64 2, .int .i64 priv, .int .u64 s] w fun r w' => r = .returned (.bool (mayV e 2 priv s)) ∧ w = w' := by
  have he := Lib.hid he0
  have hs := Lib.hid hs0
  clear he0 hs0
  unfold I64 at hp
  go_enter Try.func75, Try.ntmps75
  go_wp2_with fail
  refine (rLeaf_c e he.out _).mono ?_
  rintro r w' ⟨rfl, rfl⟩
  cases hv : leafV e with
  | false =>
    go_wp2_with fail
    go_ret
    exact ⟨pret_boo (by simp [mayV, byKindV, byPrivV, *]), rfl⟩
  | true =>
    go_wp2_with fail
    refine (rbit_c e 6 64 (by omega) (by decide) he.out _).mono ?_
    rintro r w' ⟨rfl, rfl⟩
    cases he6 : bt e 64 with
    | false =>
      go_wp2_with fail
      go_ret
      exact ⟨pret_boo (by simp [mayV, byKindV, byPrivV, *]), rfl⟩
    | true =>
      go_wp2_with fail
      refine (rbit_c e 2 4 (by omega) (by decide) he.out _).mono ?_
      rintro r w' ⟨rfl, rfl⟩
      cases he2 : bt e 4 with
      | false =>
        go_wp2_with fail
        refine (rbit_c e 4 16 (by omega) (by decide) he.out _).mono ?_
        rintro r w' ⟨rfl, rfl⟩
        cases he4 : bt e 16 with
        | false =>
          go_wp2_with fail
          go_ret
          exact ⟨pret_boo (by simp [mayV, byKindV, byPrivV, *]), rfl⟩
        | true =>
          go_wp2_with fail
          go_ret
          exact ⟨pret_boo (by simp [mayV, byKindV, byPrivV, *]), rfl⟩
      | true =>
        go_wp2_with fail
        refine (rbit_c e 7 128 (by omega) (by decide) he.out _).mono ?_
        rintro r w' ⟨rfl, rfl⟩
        cases he7 : bt e 128 with
        | false =>
          go_wp2_with fail
          refine (rbit_c e 4 16 (by omega) (by decide) he.out _).mono ?_
          rintro r w' ⟨rfl, rfl⟩
          cases he4 : bt e 16 with
          | false =>
            go_wp2_with fail
            go_ret
            exact ⟨pret_boo (by simp [mayV, byKindV, byPrivV, *]), rfl⟩
          | true =>
            go_wp2_with fail
            go_ret
            exact ⟨pret_boo (by simp [mayV, byKindV, byPrivV, *]), rfl⟩
        | true =>
          go_wp2_with fail
          refine (rbit_c e 4 16 (by omega) (by decide) he.out _).mono ?_
          rintro r w' ⟨rfl, rfl⟩
          cases he4 : bt e 16 with
          | false =>
            go_wp2_with fail
            go_ret
            exact ⟨pret_boo (by simp [mayV, byKindV, byPrivV, *]), rfl⟩
          | true =>
            go_wp2_with fail
            go_ret
            exact ⟨pret_boo (by simp [mayV, byKindV, byPrivV, *]), rfl⟩
set_option maxHeartbeats 4000000 in
theorem rMay_30 (e s : Int) (he0 : B64 e) (hs0 : B64 s) (kind : Int) (hk : I64 kind) (k0 : ¬ kind = 0) (k1 : ¬ kind = 1) (k2 : ¬ kind = 2) (w : World) :
    Calls Try.prog 75 #[.int .u64 e, .int .i64 kind, .int .i64 0, .int .u64 s] w fun r w' => r = .returned (.bool (mayV e kind 0 s)) ∧ w = w' := by
  have he := Lib.hid he0
  have hs := Lib.hid hs0
  clear he0 hs0
  unfold I64 at hk
  go_enter Try.func75, Try.ntmps75
  go_wp2_with fail
  refine (rLeaf_c e he.out _).mono ?_
  rintro r w' ⟨rfl, rfl⟩
  cases hv : leafV e with
  | false =>
    go_wp2_with fail
    go_ret
    exact ⟨pret_boo (by simp [mayV, byKindV, byPrivV, *]), rfl⟩
  | true =>
    go_wp2_with fail
    refine (rbit_c e 6 64 (by omega) (by decide) he.out _).mono ?_
    rintro r w' ⟨rfl, rfl⟩
    cases he6 : bt e 64 with
    | false =>
      go_wp2_with fail
      go_ret
      exact ⟨pret_boo (by simp [mayV, byKindV, byPrivV, *]), rfl⟩
    | true =>
      go_wp2_with fail
      refine (rbit_c e 4 16 (by omega) (by decide) he.out _).mono ?_
      rintro r w' ⟨rfl, rfl⟩
      cases he4 : bt e 16 with
      | false =>
        go_wp2_with fail
        go_ret
        exact ⟨pret_boo (by simp [mayV, byKindV, byPrivV, *]), rfl⟩
      | true =>
        go_wp2_with fail
        go_ret
        exact ⟨pret_boo (by simp [mayV, byKindV, byPrivV, *]), rfl⟩
set_option maxHeartbeats 4000000 in
theorem rMay_31 (e s : Int) (he0 : B64 e) (hs0 : B64 s) (kind : Int) (hk : I64 kind) (k0 : ¬ kind = 0) (k1 : ¬ kind = 1) (k2 : ¬ kind = 2) (w : World) :
    Calls Try.prog 75 #[.int .u64 e, .int .i64 kind, .int .i64 1, .int .u64 s] w fun r w' => r = .returned (.bool (mayV e kind 1 s)) ∧ w = w' := by
  have he := Lib.hid he0
  have hs := Lib.hid hs0
  clear he0 hs0
  unfold I64 at hk
  have kne : (kind != 0) = true := by simpa using k0
  go_enter Try.func75, Try.ntmps75
  go_wp2_with fail
  refine (rLeaf_c e he.out _).mono ?_
  rintro r w' ⟨rfl, rfl⟩
  cases hv : leafV e with
  | false =>
    go_wp2_with fail
    go_ret
    exact ⟨pret_boo (by simp [mayV, byKindV, byPrivV, *]), rfl⟩
  | true =>
    go_wp2_with fail
    refine (rbit_c e 6 64 (by omega) (by decide) he.out _).mono ?_
    rintro r w' ⟨rfl, rfl⟩
    cases he6 : bt e 64 with
    | false =>
      go_wp2_with fail
      go_ret
      exact ⟨pret_boo (by simp [mayV, byKindV, byPrivV, *]), rfl⟩
    | true =>
      go_wp2_with fail
      refine (rbit_c e 4 16 (by omega) (by decide) he.out _).mono ?_
      rintro r w' ⟨rfl, rfl⟩
      cases he4 : bt e 16 with
      | false =>
        go_wp2_with fail
        go_ret
        exact ⟨pret_boo (by simp [mayV, byKindV, byPrivV, *]), rfl⟩
      | true =>
        go_wp2_with fail
        go_ret
        exact ⟨pret_boo (by simp [mayV, byKindV, byPrivV, *]), rfl⟩
set_option maxHeartbeats 4000000 in
theorem rMay_32 (e s : Int) (he0 : B64 e) (hs0 : B64 s) (kind : Int) (hk : I64 kind) (k0 : ¬ kind = 0) (k1 : ¬ kind = 1) (k2 : ¬ kind = 2) (priv : Int) (hp : I64 priv) (p0 : ¬ priv = 0) (p1 : ¬ priv = 1) (w : World) :
    Calls Try.prog 75 #[.int .u64 e, .int .i64 kind, .int .i64 priv, .int .u64 s] w fun r w' => r = .returned (.bool (mayV e kind priv s)) ∧ w = w' := by
  have he := Lib.hid he0
  have hs := Lib.hid hs0
  clear he0 hs0
  unfold I64 at hk
  unfold I64 at hp
  go_enter Try.func75, Try.ntmps75
  go_wp2_with fail
  refine (rLeaf_c e he.out _).mono ?_
  rintro r w' ⟨rfl, rfl⟩
  cases hv : leafV e with
  | false =>
    go_wp2_with fail
    go_ret
    exact ⟨pret_boo (by simp [mayV, byKindV, byPrivV, *]), rfl⟩
  | true =>
    go_wp2_with fail
    refine (rbit_c e 6 64 (by omega) (by decide) he.out _).mono ?_
    rintro r w' ⟨rfl, rfl⟩
    cases he6 : bt e 64 with
    | false =>
      go_wp2_with fail
      go_ret
      exact ⟨pret_boo (by simp [mayV, byKindV, byPrivV, *]), rfl⟩
    | true =>
      go_wp2_with fail
      refine (rbit_c e 4 16 (by omega) (by decide) he.out _).mono ?_
      rintro r w' ⟨rfl, rfl⟩
      cases he4 : bt e 16 with
      | false =>
        go_wp2_with fail
        go_ret
        exact ⟨pret_boo (by simp [mayV, byKindV, byPrivV, *]), rfl⟩
      | true =>
        go_wp2_with fail
        go_ret
        exact ⟨pret_boo (by simp [mayV, byKindV, byPrivV, *]), rfl⟩
theorem rMay_c (e kind priv s : Int) (he : B64 e) (hk : I64 kind) (hp : I64 priv) (hs : B64 s) (w : World) :
    Calls Try.prog 75 #[.int .u64 e, .int .i64 kind, .int .i64 priv, .int .u64 s] w fun r w' => r = .returned (.bool (mayV e kind priv s)) ∧ w = w' := by
  by_cases p0 : priv = 0
  · subst p0
    by_cases k0 : kind = 0
    · subst k0; exact rMay_00 e s he hs w
    by_cases k1 : kind = 1
    · subst k1; exact rMay_10 e s he hs w
    by_cases k2 : kind = 2
    · subst k2; exact rMay_20 e s he hs w
    exact rMay_30 e s he hs kind hk k0 k1 k2 w
  by_cases p1 : priv = 1
  · subst p1
    by_cases k0 : kind = 0
    · subst k0; exact rMay_01 e s he hs w
    by_cases k1 : kind = 1
    · subst k1; exact rMay_11 e s he hs w
    by_cases k2 : kind = 2
    · subst k2; exact rMay_21 e s he hs w
    exact rMay_31 e s he hs kind hk k0 k1 k2 w
  by_cases k0 : kind = 0
  · subst k0; exact rMay_02 e s he hs priv hp p0 p1 w
  by_cases k1 : kind = 1
  · subst k1; exact rMay_12 e s he hs priv hp p0 p1 w
  by_cases k2 : kind = 2
  · subst k2; exact rMay_22 e s he hs priv hp p0 p1 w
  exact rMay_32 e s he hs kind hk k0 k1 k2 priv hp p0 p1 w
theorem rAligned_c (e n : Int) (he : B64 e) (hn : I64 n) (w : World) :
    Calls Try.prog 110 #[.int .u64 e, .int .i64 n] w fun r w' => r = .returned (.bool (alignedV e n)) ∧ w.grownBy w' none := by
  have HC := Lib.hid (fun W => rlevel_c n hn W)
  have HG := Lib.hid (fun W => rPage_c e he W)
  have hp := page_bd he
  unfold alignedV
  generalize pageV e = p at *
  by_cases h : 0 ≤ n ∧ n ≤ 2
  · rw [known_yes h] at *
    rcases (show n = 0 ∨ n = 1 ∨ n = 2 by omega) with rfl | rfl | rfl
    · have HZ : Hid (decide (p * 4096 % szV 0 = 0) = decide (p % 1 = 0)) := Lib.hid (decide_eq_decide.2 (by rw [show szV 0 = 4096 from rfl]; omega))
      rw [HZ.out]
      clear h hn he
      go_enter Try.func110, Try.ntmps110
      go_wp2_with fail
      go_quiet (first
        | (go_at_call 106; exact pquietly (HC.out _) ⟨_, rfl⟩)
        | (go_at_call 107; exact pquietly (HG.out _) ⟨_, rfl⟩))
      go_wp2_with fail
      go_ret
      exact ⟨pret_boo (by simp [beq_dec]), gr_drewN (gr_refl _ _) _⟩
    · have HZ : Hid (decide (p * 4096 % szV 1 = 0) = decide (p % 512 = 0)) := Lib.hid (decide_eq_decide.2 (by rw [show szV 1 = 2097152 from rfl]; omega))
      rw [HZ.out]
      clear h hn he
      go_enter Try.func110, Try.ntmps110
      go_wp2_with fail
      go_quiet (first
        | (go_at_call 106; exact pquietly (HC.out _) ⟨_, rfl⟩)
        | (go_at_call 107; exact pquietly (HG.out _) ⟨_, rfl⟩))
      go_wp2_with fail
      go_ret
      exact ⟨pret_boo (by simp [beq_dec]), gr_drewN (gr_refl _ _) _⟩
    · have HZ : Hid (decide (p * 4096 % szV 2 = 0) = decide (p % 262144 = 0)) := Lib.hid (decide_eq_decide.2 (by rw [show szV 2 = 1073741824 from rfl]; omega))
      rw [HZ.out]
      clear h hn he
      go_enter Try.func110, Try.ntmps110
      go_wp2_with fail
      go_quiet (first
        | (go_at_call 106; exact pquietly (HC.out _) ⟨_, rfl⟩)
        | (go_at_call 107; exact pquietly (HG.out _) ⟨_, rfl⟩))
      go_wp2_with fail
      go_ret
      exact ⟨pret_boo (by simp [beq_dec]), gr_drewN (gr_refl _ _) _⟩
  · rw [known_no h] at *
    clear h he
    go_enter Try.func110, Try.ntmps110
    go_wp2_with fail
    go_quiet (first
      | (go_at_call 106; exact pquietly (HC.out _) ⟨_, rfl⟩)
      | (go_at_call 107; exact pquietly (HG.out _) ⟨_, rfl⟩))
    go_wp2_with fail
    go_ret
    exact ⟨rfl, gr_drewN (gr_refl _ _) _⟩
theorem rAt_c (e va n : Int) (he : B64 e) (hv : B64 va) (hn : I64 n) (w : World) :
    Calls Try.prog 76 #[.int .u64 e, .int .u64 va, .int .i64 n] w fun r w' => r = .returned (.int .u64 (atV e va n)) ∧ w.grownBy w' none := by
  have HC := Lib.hid (fun W => rlevel_c n hn W)
  have HG := Lib.hid (fun W => rPage_c e he W)
  have hp := page_bd he
  unfold atV
  unfold B64 at hv
  generalize pageV e = p at *
  by_cases h : 0 ≤ n ∧ n ≤ 2
  · rw [known_yes h] at *
    rw [if_pos rfl]
    rcases (show n = 0 ∨ n = 1 ∨ n = 2 by omega) with rfl | rfl | rfl
    all_goals
      clear h hn he
      go_enter Try.func76, Try.ntmps76
      go_wp2_with fail
      refine (HC.out _).mono ?_
      rintro r w' ⟨rfl, rfl⟩
      go_wp2_with fail
      go_quiet ((go_at_call 107; exact pquietly (HG.out _) ⟨_, rfl⟩))
      go_wp2_with fail
      go_ret
      refine ⟨pret_int ?_, gr_drewN (gr_refl _ _) _⟩
    · rw [show szV 0 = 4096 from rfl]; omega
    · rw [show szV 1 = 2097152 from rfl]; omega
    · rw [show szV 2 = 1073741824 from rfl]; omega
  · rw [known_no h] at *
    rw [if_neg (by simp)]
    clear h he
    go_enter Try.func76, Try.ntmps76
    go_wp2_with fail
    refine (HC.out _).mono ?_
    rintro r w' ⟨rfl, rfl⟩
    go_wp2_with fail
    refine (HG.out _).mono ?_
    rintro r w' ⟨rfl, rfl⟩
    go_wp2_with fail
    go_ret
    exact ⟨rfl, gr_refl _ _⟩
end Go.Proofs.Ytkfmcbhoendocaa
