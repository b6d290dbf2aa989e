/-
  What the document's own answers for layer 9 (package suzerainref09) are: contracts over the translation, each by the program's plain functions.
  Conditions: the arguments are numbers of their kinds.
-/
import Derived.Test.YtlbhkmigbnhngaaCsrE
import Derived.Test.YtlbhkmigbnhngaaCsrN
namespace Go.Proofs.Ytlbhkmigbnhngaa
open Go Go.RowKit Go.Maps W M D A C
set_option linter.unusedVariables false
set_option linter.unusedSimpArgs false

abbrev I64 (n : Int) : Prop := -9223372036854775808 ≤ n ∧ n ≤ 9223372036854775807
theorem and1 (x : Int) (hx : B64 x) : bits .and .u64 x 1 = x % 2 := by
  obtain ⟨x, rfl, kx⟩ := hx.nat
  have h := andV_nat x 1 kx (by omega)
  unfold andV at h
  rw [show (1 : Int) = ((1 : Nat) : Int) from rfl, h, Nat.and_one_is_mod]
  omega
theorem not_cnt (n : Int) (h : ¬ (3072 ≤ n ∧ n ≤ 3074)) : A.look tC n = none := by
  simp only [tC, A.look]
  rw [if_neg (by omega), if_neg (by omega), if_neg (by omega)]
theorem may_none (c : Cs) (n p : Int) (wr : Bool) (h : ¬ ten n) (k : ¬ (3072 ≤ n ∧ n ≤ 3074)) : mayV c n p wr = false := by rw [mayV, not_ten n h, not_cnt n k]
theorem read_none (c : Cs) (n t : Int) (h : ¬ ten n) (k : ¬ (3072 ≤ n ∧ n ≤ 3074)) : readV c n t = 0 := by rw [readV, not_ten n h, not_cnt n k]
theorem write_none (c : Cs) (n x : Int) (h : ¬ ten n) : writeV c n x = c := by rw [writeV, not_ten n h]
theorem fresh2 (w : World) (o : Obj) (t : TypeId) (l : List Value) : Row ((w.alloc o).alloc (.cells l.toArray t)) (w.heap.size + 1) t l := by
  have := Row.fresh (w.alloc o) t l
  simpa using this
theorem rFresh_c (w : World) : Calls Try.prog 19 #[] w fun e w' => e = .returned (vC freshV) ∧ w.grownBy w' none := by
  go_enter Try.func19, Try.ntmps19
  go_wp2_with fail
  exact ret_C rfl rfl rfl (Row.fresh w 24 (lC freshV)) rfl ⟨rfl, gr_alloc (gr_refl _ _) _⟩

set_option maxHeartbeats 4000000 in
theorem rRead_c (c : Cs) (hc : C.Good c) (n t : Int) (hn : I64 n) (ht : B64 t) (w : World) :
    Calls Try.prog 13 #[vC c, .int .i64 n, .int .u64 t] w fun e w' => e = .returned (.int .u64 (readV c n t)) ∧ w.grownBy w' none := by
  obtain ⟨a0, a1, a2, a3, a4, a5, a6, a7, a8, a9, a10, a11, rfl⟩ := twelve hc.1
  rw [vC_12]
  clear hc
  unfold B64 I64 at *
  by_cases h256 : n = 256
  · subst h256
    go_enter Try.func13, Try.ntmps13
    go_wp2_with fail
    go_ret
    exact ⟨rfl, gr_alloc (gr_refl _ _) _⟩
  by_cases h260 : n = 260
  · subst h260
    go_enter Try.func13, Try.ntmps13
    go_wp2_with fail
    go_ret
    exact ⟨rfl, gr_alloc (gr_refl _ _) _⟩
  by_cases h261 : n = 261
  · subst h261
    go_enter Try.func13, Try.ntmps13
    go_wp2_with fail
    go_ret
    exact ⟨rfl, gr_alloc (gr_refl _ _) _⟩
  by_cases h262 : n = 262
  · subst h262
    go_enter Try.func13, Try.ntmps13
    go_wp2_with fail
    go_ret
    exact ⟨rfl, gr_alloc (gr_refl _ _) _⟩
  by_cases h320 : n = 320
  · subst h320
    go_enter Try.func13, Try.ntmps13
    go_wp2_with fail
    go_ret
    exact ⟨rfl, gr_alloc (gr_refl _ _) _⟩
  by_cases h321 : n = 321
  · subst h321
    go_enter Try.func13, Try.ntmps13
    go_wp2_with fail
    go_ret
    exact ⟨rfl, gr_alloc (gr_refl _ _) _⟩
  by_cases h322 : n = 322
  · subst h322
    go_enter Try.func13, Try.ntmps13
    go_wp2_with fail
    go_ret
    exact ⟨rfl, gr_alloc (gr_refl _ _) _⟩
  by_cases h323 : n = 323
  · subst h323
    go_enter Try.func13, Try.ntmps13
    go_wp2_with fail
    go_ret
    exact ⟨rfl, gr_alloc (gr_refl _ _) _⟩
  by_cases h324 : n = 324
  · subst h324
    go_enter Try.func13, Try.ntmps13
    go_wp2_with fail
    go_ret
    exact ⟨rfl, gr_alloc (gr_refl _ _) _⟩
  by_cases h384 : n = 384
  · subst h384
    go_enter Try.func13, Try.ntmps13
    go_wp2_with fail
    go_ret
    exact ⟨rfl, gr_alloc (gr_refl _ _) _⟩
  by_cases h3072 : n = 3072
  · subst h3072
    go_enter Try.func13, Try.ntmps13
    go_wp2_with fail
    go_ret
    exact ⟨rfl, gr_alloc (gr_refl _ _) _⟩
  by_cases h3073 : n = 3073
  · subst h3073
    go_enter Try.func13, Try.ntmps13
    go_wp2_with fail
    go_ret
    exact ⟨rfl, gr_alloc (gr_refl _ _) _⟩
  by_cases h3074 : n = 3074
  · subst h3074
    go_enter Try.func13, Try.ntmps13
    go_wp2_with fail
    go_ret
    exact ⟨rfl, gr_alloc (gr_refl _ _) _⟩
  rw [read_none _ n t (by unfold ten; omega) (by omega)]
  have d256 : (n == 256) = false := by simpa using h256
  have d260 : (n == 260) = false := by simpa using h260
  have d261 : (n == 261) = false := by simpa using h261
  have d262 : (n == 262) = false := by simpa using h262
  have d320 : (n == 320) = false := by simpa using h320
  have d321 : (n == 321) = false := by simpa using h321
  have d322 : (n == 322) = false := by simpa using h322
  have d323 : (n == 323) = false := by simpa using h323
  have d324 : (n == 324) = false := by simpa using h324
  have d384 : (n == 384) = false := by simpa using h384
  have d3072 : (n == 3072) = false := by simpa using h3072
  have d3073 : (n == 3073) = false := by simpa using h3073
  have d3074 : (n == 3074) = false := by simpa using h3074
  clear h256 h260 h261 h262 h320 h321 h322 h323 h324 h384 h3072 h3073 h3074
  go_enter Try.func13, Try.ntmps13
  go_wp2_with fail
  go_ret
  exact ⟨rfl, gr_alloc (gr_refl _ _) _⟩
set_option maxHeartbeats 8000000 in
theorem rWrite_c (c : Cs) (hc : C.Good c) (n x : Int) (hn : I64 n) (hx : B64 x) (w : World) :
    Calls Try.prog 15 #[vC c, .int .i64 n, .int .u64 x] w fun e w' => e = .returned (vC (writeV c n x)) ∧ w.grownBy w' none := by
  have HX := Lib.hid hx
  have H8 := Lib.hid (hc.get 8)
  obtain ⟨a0, a1, a2, a3, a4, a5, a6, a7, a8, a9, a10, a11, rfl⟩ := twelve hc.1
  rw [vC_12]
  clear hc
  have h8 : B64 a8 := H8.out
  have x2 := and2 x hx
  have y2 := and2 a8 h8
  unfold B64 I64 at *
  by_cases h256 : n = 256
  · subst h256
    have EV := Lib.hid (show writeV [a0, a1, a2, a3, a4, a5, a6, a7, a8, a9, a10, a11] 256 x = [statV a0 x, a1, a2, a3, a4, a5, a6, a7, a8, a9, a10, a11] from rfl)
    unfold statV andV orV at EV
    rw [EV.out]
    clear EV
    go_enter Try.func15, Try.ntmps15
    go_wp2_with fail
    refine ret_C rfl rfl rfl (c := [_, _, _, _, _, _, _, _, _, _, _, _]) (fresh2 w _ _ _) rfl ⟨?_, gr_alloc (gr_alloc (gr_refl _ _) _) _⟩
    rfl
  by_cases h260 : n = 260
  · subst h260
    have EV := Lib.hid (show writeV [a0, a1, a2, a3, a4, a5, a6, a7, a8, a9, a10, a11] 260 x = [a0, onlyV 546 a1 x, a2, a3, a4, a5, a6, a7, a8, a9, a10, a11] from rfl)
    unfold onlyV andV at EV
    rw [EV.out]
    clear EV
    go_enter Try.func15, Try.ntmps15
    go_wp2_with fail
    refine ret_C rfl rfl rfl (c := [_, _, _, _, _, _, _, _, _, _, _, _]) (fresh2 w _ _ _) rfl ⟨?_, gr_alloc (gr_alloc (gr_refl _ _) _) _⟩
    rfl
  by_cases h261 : n = 261
  · subst h261
    have EV := Lib.hid (show writeV [a0, a1, a2, a3, a4, a5, a6, a7, a8, a9, a10, a11] 261 x = [a0, a1, onlyV 18446744073709551613 a2 x, a3, a4, a5, a6, a7, a8, a9, a10, a11] from rfl)
    rw [tvec_eq a2 x HX.out] at EV
    rw [EV.out]
    clear EV
    go_enter Try.func15, Try.ntmps15
    go_wp2_with fail
    refine ret_C rfl rfl rfl (c := [_, _, _, _, _, _, _, _, _, _, _, _]) (fresh2 w _ _ _) rfl ⟨?_, gr_alloc (gr_alloc (gr_refl _ _) _) _⟩
    rfl
  by_cases h262 : n = 262
  · subst h262
    have EV := Lib.hid (show writeV [a0, a1, a2, a3, a4, a5, a6, a7, a8, a9, a10, a11] 262 x = [a0, a1, a2, onlyV 7 a3 x, a4, a5, a6, a7, a8, a9, a10, a11] from rfl)
    rw [cnt_eq a3 x HX.out] at EV
    rw [EV.out]
    clear EV
    go_enter Try.func15, Try.ntmps15
    go_wp2_with fail
    refine ret_C rfl rfl rfl (c := [_, _, _, _, _, _, _, _, _, _, _, _]) (fresh2 w _ _ _) rfl ⟨?_, gr_alloc (gr_alloc (gr_refl _ _) _) _⟩
    rfl
  by_cases h320 : n = 320
  · subst h320
    have EV := Lib.hid (show writeV [a0, a1, a2, a3, a4, a5, a6, a7, a8, a9, a10, a11] 320 x = [a0, a1, a2, a3, x, a5, a6, a7, a8, a9, a10, a11] from rfl)
    skip
    rw [EV.out]
    clear EV
    go_enter Try.func15, Try.ntmps15
    go_wp2_with fail
    refine ret_C rfl rfl rfl (c := [_, _, _, _, _, _, _, _, _, _, _, _]) (fresh2 w _ _ _) rfl ⟨?_, gr_alloc (gr_alloc (gr_refl _ _) _) _⟩
    rfl
  by_cases h321 : n = 321
  · subst h321
    have EV := Lib.hid (show writeV [a0, a1, a2, a3, a4, a5, a6, a7, a8, a9, a10, a11] 321 x = [a0, a1, a2, a3, a4, onlyV 18446744073709551614 a5 x, a6, a7, a8, a9, a10, a11] from rfl)
    rw [epc_eq a5 x HX.out] at EV
    rw [EV.out]
    clear EV
    go_enter Try.func15, Try.ntmps15
    go_wp2_with fail
    refine ret_C rfl rfl rfl (c := [_, _, _, _, _, _, _, _, _, _, _, _]) (fresh2 w _ _ _) rfl ⟨?_, gr_alloc (gr_alloc (gr_refl _ _) _) _⟩
    rfl
  by_cases h322 : n = 322
  · subst h322
    have EV := Lib.hid (show writeV [a0, a1, a2, a3, a4, a5, a6, a7, a8, a9, a10, a11] 322 x = [a0, a1, a2, a3, a4, a5, x, a7, a8, a9, a10, a11] from rfl)
    skip
    rw [EV.out]
    clear EV
    go_enter Try.func15, Try.ntmps15
    go_wp2_with fail
    refine ret_C rfl rfl rfl (c := [_, _, _, _, _, _, _, _, _, _, _, _]) (fresh2 w _ _ _) rfl ⟨?_, gr_alloc (gr_alloc (gr_refl _ _) _) _⟩
    rfl
  by_cases h323 : n = 323
  · subst h323
    have EV := Lib.hid (show writeV [a0, a1, a2, a3, a4, a5, a6, a7, a8, a9, a10, a11] 323 x = [a0, a1, a2, a3, a4, a5, a6, x, a8, a9, a10, a11] from rfl)
    skip
    rw [EV.out]
    clear EV
    go_enter Try.func15, Try.ntmps15
    go_wp2_with fail
    refine ret_C rfl rfl rfl (c := [_, _, _, _, _, _, _, _, _, _, _, _]) (fresh2 w _ _ _) rfl ⟨?_, gr_alloc (gr_alloc (gr_refl _ _) _) _⟩
    rfl
  by_cases h324 : n = 324
  · subst h324
    have EV := Lib.hid (show writeV [a0, a1, a2, a3, a4, a5, a6, a7, a8, a9, a10, a11] 324 x = [a0, a1, a2, a3, a4, a5, a6, a7, ipV a8 x, a9, a10, a11] from rfl)
    rw [ip_eq a8 x H8.out HX.out] at EV
    rw [EV.out]
    clear EV
    go_enter Try.func15, Try.ntmps15
    go_wp2_with fail
    refine ret_C rfl rfl rfl (c := [_, _, _, _, _, _, _, _, _, _, _, _]) (fresh2 w _ _ _) rfl ⟨?_, gr_alloc (gr_alloc (gr_refl _ _) _) _⟩
    rfl
  by_cases h384 : n = 384
  · subst h384
    by_cases h0 : x / 1152921504606846976 = 0
    · have EV := Lib.hid (show writeV [a0, a1, a2, a3, a4, a5, a6, a7, a8, a9, a10, a11] 384 x = [a0, a1, a2, a3, a4, a5, a6, a7, a8, x, a10, a11] by show [a0, a1, a2, a3, a4, a5, a6, a7, a8, satpV a9 x, a10, a11] = _; rw [show satpV a9 x = x from if_pos (Or.inl h0)])
      rw [EV.out]
      clear EV
      go_enter Try.func15, Try.ntmps15
      go_wp2_with fail
      refine ret_C rfl rfl rfl (c := [_, _, _, _, _, _, _, _, _, _, _, _]) (fresh2 w _ _ _) rfl ⟨?_, gr_alloc (gr_alloc (gr_refl _ _) _) _⟩
      rfl
    have d0 : (x / 1152921504606846976 == 0) = false := by simpa using h0
    by_cases h8 : x / 1152921504606846976 = 8
    · have EV := Lib.hid (show writeV [a0, a1, a2, a3, a4, a5, a6, a7, a8, a9, a10, a11] 384 x = [a0, a1, a2, a3, a4, a5, a6, a7, a8, x, a10, a11] by show [a0, a1, a2, a3, a4, a5, a6, a7, a8, satpV a9 x, a10, a11] = _; rw [show satpV a9 x = x from if_pos (Or.inr h8)])
      rw [EV.out]
      clear EV
      go_enter Try.func15, Try.ntmps15
      go_wp2_with fail
      refine ret_C rfl rfl rfl (c := [_, _, _, _, _, _, _, _, _, _, _, _]) (fresh2 w _ _ _) rfl ⟨?_, gr_alloc (gr_alloc (gr_refl _ _) _) _⟩
      rfl
    have d8 : (x / 1152921504606846976 == 8) = false := by simpa using h8
    have EV := Lib.hid (show writeV [a0, a1, a2, a3, a4, a5, a6, a7, a8, a9, a10, a11] 384 x = [a0, a1, a2, a3, a4, a5, a6, a7, a8, a9, a10, a11] by show [a0, a1, a2, a3, a4, a5, a6, a7, a8, satpV a9 x, a10, a11] = _; rw [show satpV a9 x = a9 from if_neg (by omega)])
    rw [EV.out]
    clear EV
    go_enter Try.func15, Try.ntmps15
    go_wp2_with fail
    refine ret_C rfl rfl rfl (c := [_, _, _, _, _, _, _, _, _, _, _, _]) (fresh2 w _ _ _) rfl ⟨?_, gr_alloc (gr_alloc (gr_refl _ _) _) _⟩
    rfl
  rw [write_none _ n x (by unfold ten; omega)]
  have d256 : (n == 256) = false := by simpa using h256
  have d260 : (n == 260) = false := by simpa using h260
  have d261 : (n == 261) = false := by simpa using h261
  have d262 : (n == 262) = false := by simpa using h262
  have d320 : (n == 320) = false := by simpa using h320
  have d321 : (n == 321) = false := by simpa using h321
  have d322 : (n == 322) = false := by simpa using h322
  have d323 : (n == 323) = false := by simpa using h323
  have d324 : (n == 324) = false := by simpa using h324
  have d384 : (n == 384) = false := by simpa using h384
  clear h256 h260 h261 h262 h320 h321 h322 h323 h324 h384
  go_enter Try.func15, Try.ntmps15
  go_wp2_with fail
  refine ret_C rfl rfl rfl (c := [_, _, _, _, _, _, _, _, _, _, _, _]) (fresh2 w _ _ _) rfl ⟨?_, gr_alloc (gr_alloc (gr_refl _ _) _) _⟩
  rfl
set_option maxHeartbeats 8000000 in
theorem rMay_c (c : Cs) (hc : C.Good c) (n p : Int) (wr : Bool) (hn : I64 n) (hp : I64 p) (w : World) :
    Calls Try.prog 11 #[vC c, .int .i64 n, .int .i64 p, .bool wr] w fun e w' => e = .returned (.bool (mayV c n p wr)) ∧ w.grownBy w' none := by
  have H3 := Lib.hid (hc.get 3)
  obtain ⟨a0, a1, a2, a3, a4, a5, a6, a7, a8, a9, a10, a11, rfl⟩ := twelve hc.1
  rw [vC_12]
  clear hc
  have h3 : B64 a3 := H3.out
  have e1 := and1 a3 h3
  have e2 := and1 (a3 / 2) (by unfold B64 at *; omega)
  have e4 := and1 (a3 / 4) (by unfold B64 at *; omega)
  unfold B64 I64 at *
  by_cases h256 : n = 256
  · subst h256
    go_enter Try.func11, Try.ntmps11
    go_wp2_with fail
    go_ret
    exact ⟨ret_boo rfl, gr_alloc (gr_refl _ _) _⟩
  by_cases h260 : n = 260
  · subst h260
    go_enter Try.func11, Try.ntmps11
    go_wp2_with fail
    go_ret
    exact ⟨ret_boo rfl, gr_alloc (gr_refl _ _) _⟩
  by_cases h261 : n = 261
  · subst h261
    go_enter Try.func11, Try.ntmps11
    go_wp2_with fail
    go_ret
    exact ⟨ret_boo rfl, gr_alloc (gr_refl _ _) _⟩
  by_cases h262 : n = 262
  · subst h262
    go_enter Try.func11, Try.ntmps11
    go_wp2_with fail
    go_ret
    exact ⟨ret_boo rfl, gr_alloc (gr_refl _ _) _⟩
  by_cases h320 : n = 320
  · subst h320
    go_enter Try.func11, Try.ntmps11
    go_wp2_with fail
    go_ret
    exact ⟨ret_boo rfl, gr_alloc (gr_refl _ _) _⟩
  by_cases h321 : n = 321
  · subst h321
    go_enter Try.func11, Try.ntmps11
    go_wp2_with fail
    go_ret
    exact ⟨ret_boo rfl, gr_alloc (gr_refl _ _) _⟩
  by_cases h322 : n = 322
  · subst h322
    go_enter Try.func11, Try.ntmps11
    go_wp2_with fail
    go_ret
    exact ⟨ret_boo rfl, gr_alloc (gr_refl _ _) _⟩
  by_cases h323 : n = 323
  · subst h323
    go_enter Try.func11, Try.ntmps11
    go_wp2_with fail
    go_ret
    exact ⟨ret_boo rfl, gr_alloc (gr_refl _ _) _⟩
  by_cases h324 : n = 324
  · subst h324
    go_enter Try.func11, Try.ntmps11
    go_wp2_with fail
    go_ret
    exact ⟨ret_boo rfl, gr_alloc (gr_refl _ _) _⟩
  by_cases h384 : n = 384
  · subst h384
    go_enter Try.func11, Try.ntmps11
    go_wp2_with fail
    go_ret
    exact ⟨ret_boo rfl, gr_alloc (gr_refl _ _) _⟩
  by_cases h3072 : n = 3072
  · subst h3072
    have EV := Lib.hid (show mayV [a0, a1, a2, a3, a4, a5, a6, a7, a8, a9, a10, a11] 3072 p wr = (!wr && (p == 1 || (p == 0 && (a3 / 1 % 2 == 1)))) by show (!wr && (p == 1 || (p == 0 && !(andV a3 1 == 0)))) = _; rw [show (!(andV a3 1 == 0)) = (a3 / 1 % 2 == 1) from user_eq a3 H3.out 0 (by omega)])
    rw [EV.out]
    clear EV
    cases wr with
    | true =>
      go_enter Try.func11, Try.ntmps11
      go_wp2_with fail
      go_ret
      exact ⟨rfl, gr_alloc (gr_refl _ _) _⟩
    | false =>
      by_cases h1 : p = 1
      · subst h1
        go_enter Try.func11, Try.ntmps11
        go_wp2_with fail
        go_ret
        exact ⟨ret_boo rfl, gr_alloc (gr_refl _ _) _⟩
      have d1 : (p == 1) = false := by simpa using h1
      by_cases h0 : p = 0
      · subst h0
        rw [Int.ediv_one]
        go_enter Try.func11, Try.ntmps11
        go_wp2_with fail
        go_ret
        exact ⟨ret_boo (by rfl), gr_alloc (gr_refl _ _) _⟩
      have d0 : (p == 0) = false := by simpa using h0
      go_enter Try.func11, Try.ntmps11
      go_wp2_with fail
      go_ret
      exact ⟨ret_boo (by rw [d1, d0]; rfl), gr_alloc (gr_refl _ _) _⟩
  by_cases h3073 : n = 3073
  · subst h3073
    have EV := Lib.hid (show mayV [a0, a1, a2, a3, a4, a5, a6, a7, a8, a9, a10, a11] 3073 p wr = (!wr && (p == 1 || (p == 0 && (a3 / 2 % 2 == 1)))) by show (!wr && (p == 1 || (p == 0 && !(andV a3 2 == 0)))) = _; rw [show (!(andV a3 2 == 0)) = (a3 / 2 % 2 == 1) from user_eq a3 H3.out 1 (by omega)])
    rw [EV.out]
    clear EV
    cases wr with
    | true =>
      go_enter Try.func11, Try.ntmps11
      go_wp2_with fail
      go_ret
      exact ⟨rfl, gr_alloc (gr_refl _ _) _⟩
    | false =>
      by_cases h1 : p = 1
      · subst h1
        go_enter Try.func11, Try.ntmps11
        go_wp2_with fail
        go_ret
        exact ⟨ret_boo rfl, gr_alloc (gr_refl _ _) _⟩
      have d1 : (p == 1) = false := by simpa using h1
      by_cases h0 : p = 0
      · subst h0
        go_enter Try.func11, Try.ntmps11
        go_wp2_with fail
        go_ret
        exact ⟨ret_boo (by rfl), gr_alloc (gr_refl _ _) _⟩
      have d0 : (p == 0) = false := by simpa using h0
      go_enter Try.func11, Try.ntmps11
      go_wp2_with fail
      go_ret
      exact ⟨ret_boo (by rw [d1, d0]; rfl), gr_alloc (gr_refl _ _) _⟩
  by_cases h3074 : n = 3074
  · subst h3074
    have EV := Lib.hid (show mayV [a0, a1, a2, a3, a4, a5, a6, a7, a8, a9, a10, a11] 3074 p wr = (!wr && (p == 1 || (p == 0 && (a3 / 4 % 2 == 1)))) by show (!wr && (p == 1 || (p == 0 && !(andV a3 4 == 0)))) = _; rw [show (!(andV a3 4 == 0)) = (a3 / 4 % 2 == 1) from user_eq a3 H3.out 2 (by omega)])
    rw [EV.out]
    clear EV
    cases wr with
    | true =>
      go_enter Try.func11, Try.ntmps11
      go_wp2_with fail
      go_ret
      exact ⟨rfl, gr_alloc (gr_refl _ _) _⟩
    | false =>
      by_cases h1 : p = 1
      · subst h1
        go_enter Try.func11, Try.ntmps11
        go_wp2_with fail
        go_ret
        exact ⟨ret_boo rfl, gr_alloc (gr_refl _ _) _⟩
      have d1 : (p == 1) = false := by simpa using h1
      by_cases h0 : p = 0
      · subst h0
        go_enter Try.func11, Try.ntmps11
        go_wp2_with fail
        go_ret
        exact ⟨ret_boo (by rfl), gr_alloc (gr_refl _ _) _⟩
      have d0 : (p == 0) = false := by simpa using h0
      go_enter Try.func11, Try.ntmps11
      go_wp2_with fail
      go_ret
      exact ⟨ret_boo (by rw [d1, d0]; rfl), gr_alloc (gr_refl _ _) _⟩
  rw [may_none _ n p wr (by unfold ten; omega) (by omega)]
  have d256 : (n == 256) = false := by simpa using h256
  have d384 : (n == 384) = false := by simpa using h384
  have hr : n < 256 ∨ (256 < n ∧ n < 260) ∨ (262 < n ∧ n < 320) ∨ (324 < n ∧ n < 384) ∨ (384 < n ∧ n < 3072) ∨ 3074 < n := by omega
  clear h256 h260 h261 h262 h320 h321 h322 h323 h324 h384 h3072 h3073 h3074
  rcases hr with hr | hr | hr | hr | hr | hr
  · skip
    have g3072 : decide (3072 ≤ n) = false := by simp; omega
    have g260 : decide (260 ≤ n) = false := by simp; omega
    have g320 : decide (320 ≤ n) = false := by simp; omega
    have g3074 : decide (n ≤ 3074) = true := by simp; omega
    have g262 : decide (n ≤ 262) = true := by simp; omega
    have g324 : decide (n ≤ 324) = true := by simp; omega
    go_enter Try.func11, Try.ntmps11
    go_wp2_with fail
    go_ret
    exact ⟨ret_boo rfl, gr_alloc (gr_refl _ _) _⟩
  · skip
    have g3072 : decide (3072 ≤ n) = false := by simp; omega
    have g260 : decide (260 ≤ n) = false := by simp; omega
    have g320 : decide (320 ≤ n) = false := by simp; omega
    have g3074 : decide (n ≤ 3074) = true := by simp; omega
    have g262 : decide (n ≤ 262) = true := by simp; omega
    have g324 : decide (n ≤ 324) = true := by simp; omega
    go_enter Try.func11, Try.ntmps11
    go_wp2_with fail
    go_ret
    exact ⟨ret_boo rfl, gr_alloc (gr_refl _ _) _⟩
  · skip
    have g3072 : decide (3072 ≤ n) = false := by simp; omega
    have g260 : decide (260 ≤ n) = true := by simp; omega
    have g320 : decide (320 ≤ n) = false := by simp; omega
    have g3074 : decide (n ≤ 3074) = true := by simp; omega
    have g262 : decide (n ≤ 262) = false := by simp; omega
    have g324 : decide (n ≤ 324) = true := by simp; omega
    go_enter Try.func11, Try.ntmps11
    go_wp2_with fail
    go_ret
    exact ⟨ret_boo rfl, gr_alloc (gr_refl _ _) _⟩
  · skip
    have g3072 : decide (3072 ≤ n) = false := by simp; omega
    have g260 : decide (260 ≤ n) = true := by simp; omega
    have g320 : decide (320 ≤ n) = true := by simp; omega
    have g3074 : decide (n ≤ 3074) = true := by simp; omega
    have g262 : decide (n ≤ 262) = false := by simp; omega
    have g324 : decide (n ≤ 324) = false := by simp; omega
    go_enter Try.func11, Try.ntmps11
    go_wp2_with fail
    go_ret
    exact ⟨ret_boo rfl, gr_alloc (gr_refl _ _) _⟩
  · skip
    have g3072 : decide (3072 ≤ n) = false := by simp; omega
    have g260 : decide (260 ≤ n) = true := by simp; omega
    have g320 : decide (320 ≤ n) = true := by simp; omega
    have g3074 : decide (n ≤ 3074) = true := by simp; omega
    have g262 : decide (n ≤ 262) = false := by simp; omega
    have g324 : decide (n ≤ 324) = false := by simp; omega
    go_enter Try.func11, Try.ntmps11
    go_wp2_with fail
    go_ret
    exact ⟨ret_boo rfl, gr_alloc (gr_refl _ _) _⟩
  · skip
    have g3072 : decide (3072 ≤ n) = true := by simp; omega
    have g260 : decide (260 ≤ n) = true := by simp; omega
    have g320 : decide (320 ≤ n) = true := by simp; omega
    have g3074 : decide (n ≤ 3074) = false := by simp; omega
    have g262 : decide (n ≤ 262) = false := by simp; omega
    have g324 : decide (n ≤ 324) = false := by simp; omega
    go_enter Try.func11, Try.ntmps11
    go_wp2_with fail
    go_ret
    exact ⟨ret_boo rfl, gr_alloc (gr_refl _ _) _⟩
end Go.Proofs.Ytlbhkmigbnhngaa
