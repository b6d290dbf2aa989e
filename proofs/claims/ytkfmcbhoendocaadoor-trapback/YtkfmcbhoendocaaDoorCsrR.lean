/-
  What the document's own answers for layer 9 (package suzerainref09) are: contracts over the translation, each by the program's plain functions.
  Conditions: the arguments are numbers of their kinds.
-/
import Derived.Test.YtkfmcbhoendocaaDoorCsrE
import Derived.Test.YtkfmcbhoendocaaDoorCsrN
namespace Go.Proofs.YtkfmcbhoendocaaDoor
open Go Go.RowKit Go.Maps W M D A C
set_option linter.unusedVariables false
set_option linter.unusedSimpArgs false

abbrev I64 (n : Int) : Prop := -9223372036854775808 ≤ n ∧ n ≤ 9223372036854775807
theorem and1 (x : Int) (hx : B64 x) : bits .and .u64 x 1 = x % 2 := by
  obtain ⟨x, rfl, kx⟩ := hx.nat
  have h := andV_nat x 1 kx (by omega)
  unfold andV at h
  rw [show (1 : Int) = ((1 : Nat) : Int) from rfl, h, Nat.and_one_is_mod]
  omega
theorem not_cnt (n : Int) (h : ¬ (3072 ≤ n ∧ n ≤ 3074)) : A.look tC n = none := by
  simp only [tC, A.look]
  rw [if_neg (by omega), if_neg (by omega), if_neg (by omega)]
theorem may_none (c : Cs) (n p : Int) (wr : Bool) (h : ¬ ten n) (k : ¬ (3072 ≤ n ∧ n ≤ 3074)) : mayV c n p wr = false := by rw [mayV, not_ten n h, not_cnt n k]
theorem read_none (c : Cs) (n t : Int) (h : ¬ ten n) (k : ¬ (3072 ≤ n ∧ n ≤ 3074)) : readV c n t = 0 := by rw [readV, not_ten n h, not_cnt n k]
theorem write_none (c : Cs) (n x : Int) (h : ¬ ten n) : writeV c n x = c := by rw [writeV, not_ten n h]
theorem fresh2 (w : World) (o : Obj) (t : TypeId) (l : List Value) : Row ((w.alloc o).alloc (.cells l.toArray t)) (w.heap.size + 1) t l := by
  have := Row.fresh (w.alloc o) t l
  simpa using this
set_option maxHeartbeats 8000000 in
theorem rWrite_c (c : Cs) (hc : C.Good c) (n x : Int) (hn : I64 n) (hx : B64 x) (w : World) :
    Calls Tryd.prog 25 #[vC c, .int .i64 n, .int .u64 x] w fun e w' => e = .returned (vC (writeV c n x)) ∧ w.grownBy w' none := by
  have HX := Lib.hid hx
  have H8 := Lib.hid (hc.get 8)
  obtain ⟨a0, a1, a2, a3, a4, a5, a6, a7, a8, a9, a10, a11, rfl⟩ := twelve hc.1
  rw [vC_12]
  clear hc
  have h8 : B64 a8 := H8.out
  have x2 := and2 x hx
  have y2 := and2 a8 h8
  unfold B64 I64 at *
  by_cases h256 : n = 256
  · subst h256
    have EV := Lib.hid (show writeV [a0, a1, a2, a3, a4, a5, a6, a7, a8, a9, a10, a11] 256 x = [statV a0 x, a1, a2, a3, a4, a5, a6, a7, a8, a9, a10, a11] from rfl)
    unfold statV andV orV at EV
    rw [EV.out]
    clear EV
    go_enter Tryd.func25, Tryd.ntmps25
    go_wp2_with fail
    refine ret_C rfl rfl rfl (c := [_, _, _, _, _, _, _, _, _, _, _, _]) (fresh2 w _ _ _) rfl ⟨?_, gr_alloc (gr_alloc (gr_refl _ _) _) _⟩
    rfl
  by_cases h260 : n = 260
  · subst h260
    have EV := Lib.hid (show writeV [a0, a1, a2, a3, a4, a5, a6, a7, a8, a9, a10, a11] 260 x = [a0, onlyV 546 a1 x, a2, a3, a4, a5, a6, a7, a8, a9, a10, a11] from rfl)
    unfold onlyV andV at EV
    rw [EV.out]
    clear EV
    go_enter Tryd.func25, Tryd.ntmps25
    go_wp2_with fail
    refine ret_C rfl rfl rfl (c := [_, _, _, _, _, _, _, _, _, _, _, _]) (fresh2 w _ _ _) rfl ⟨?_, gr_alloc (gr_alloc (gr_refl _ _) _) _⟩
    rfl
  by_cases h261 : n = 261
  · subst h261
    have EV := Lib.hid (show writeV [a0, a1, a2, a3, a4, a5, a6, a7, a8, a9, a10, a11] 261 x = [a0, a1, onlyV 18446744073709551613 a2 x, a3, a4, a5, a6, a7, a8, a9, a10, a11] from rfl)
    rw [tvec_eq a2 x HX.out] at EV
    rw [EV.out]
    clear EV
    go_enter Tryd.func25, Tryd.ntmps25
    go_wp2_with fail
    refine ret_C rfl rfl rfl (c := [_, _, _, _, _, _, _, _, _, _, _, _]) (fresh2 w _ _ _) rfl ⟨?_, gr_alloc (gr_alloc (gr_refl _ _) _) _⟩
    rfl
  by_cases h262 : n = 262
  · subst h262
    have EV := Lib.hid (show writeV [a0, a1, a2, a3, a4, a5, a6, a7, a8, a9, a10, a11] 262 x = [a0, a1, a2, onlyV 7 a3 x, a4, a5, a6, a7, a8, a9, a10, a11] from rfl)
    rw [cnt_eq a3 x HX.out] at EV
    rw [EV.out]
    clear EV
    go_enter Tryd.func25, Tryd.ntmps25
    go_wp2_with fail
    refine ret_C rfl rfl rfl (c := [_, _, _, _, _, _, _, _, _, _, _, _]) (fresh2 w _ _ _) rfl ⟨?_, gr_alloc (gr_alloc (gr_refl _ _) _) _⟩
    rfl
  by_cases h320 : n = 320
  · subst h320
    have EV := Lib.hid (show writeV [a0, a1, a2, a3, a4, a5, a6, a7, a8, a9, a10, a11] 320 x = [a0, a1, a2, a3, x, a5, a6, a7, a8, a9, a10, a11] from rfl)
    skip
    rw [EV.out]
    clear EV
    go_enter Tryd.func25, Tryd.ntmps25
    go_wp2_with fail
    refine ret_C rfl rfl rfl (c := [_, _, _, _, _, _, _, _, _, _, _, _]) (fresh2 w _ _ _) rfl ⟨?_, gr_alloc (gr_alloc (gr_refl _ _) _) _⟩
    rfl
  by_cases h321 : n = 321
  · subst h321
    have EV := Lib.hid (show writeV [a0, a1, a2, a3, a4, a5, a6, a7, a8, a9, a10, a11] 321 x = [a0, a1, a2, a3, a4, onlyV 18446744073709551614 a5 x, a6, a7, a8, a9, a10, a11] from rfl)
    rw [epc_eq a5 x HX.out] at EV
    rw [EV.out]
    clear EV
    go_enter Tryd.func25, Tryd.ntmps25
    go_wp2_with fail
    refine ret_C rfl rfl rfl (c := [_, _, _, _, _, _, _, _, _, _, _, _]) (fresh2 w _ _ _) rfl ⟨?_, gr_alloc (gr_alloc (gr_refl _ _) _) _⟩
    rfl
  by_cases h322 : n = 322
  · subst h322
    have EV := Lib.hid (show writeV [a0, a1, a2, a3, a4, a5, a6, a7, a8, a9, a10, a11] 322 x = [a0, a1, a2, a3, a4, a5, x, a7, a8, a9, a10, a11] from rfl)
    skip
    rw [EV.out]
    clear EV
    go_enter Tryd.func25, Tryd.ntmps25
    go_wp2_with fail
    refine ret_C rfl rfl rfl (c := [_, _, _, _, _, _, _, _, _, _, _, _]) (fresh2 w _ _ _) rfl ⟨?_, gr_alloc (gr_alloc (gr_refl _ _) _) _⟩
    rfl
  by_cases h323 : n = 323
  · subst h323
    have EV := Lib.hid (show writeV [a0, a1, a2, a3, a4, a5, a6, a7, a8, a9, a10, a11] 323 x = [a0, a1, a2, a3, a4, a5, a6, x, a8, a9, a10, a11] from rfl)
    skip
    rw [EV.out]
    clear EV
    go_enter Tryd.func25, Tryd.ntmps25
    go_wp2_with fail
    refine ret_C rfl rfl rfl (c := [_, _, _, _, _, _, _, _, _, _, _, _]) (fresh2 w _ _ _) rfl ⟨?_, gr_alloc (gr_alloc (gr_refl _ _) _) _⟩
    rfl
  by_cases h324 : n = 324
  · subst h324
    have EV := Lib.hid (show writeV [a0, a1, a2, a3, a4, a5, a6, a7, a8, a9, a10, a11] 324 x = [a0, a1, a2, a3, a4, a5, a6, a7, ipV a8 x, a9, a10, a11] from rfl)
    rw [ip_eq a8 x H8.out HX.out] at EV
    rw [EV.out]
    clear EV
    go_enter Tryd.func25, Tryd.ntmps25
    go_wp2_with fail
    refine ret_C rfl rfl rfl (c := [_, _, _, _, _, _, _, _, _, _, _, _]) (fresh2 w _ _ _) rfl ⟨?_, gr_alloc (gr_alloc (gr_refl _ _) _) _⟩
    rfl
  by_cases h384 : n = 384
  · subst h384
    by_cases h0 : x / 1152921504606846976 = 0
    · have EV := Lib.hid (show writeV [a0, a1, a2, a3, a4, a5, a6, a7, a8, a9, a10, a11] 384 x = [a0, a1, a2, a3, a4, a5, a6, a7, a8, x, a10, a11] by show [a0, a1, a2, a3, a4, a5, a6, a7, a8, satpV a9 x, a10, a11] = _; rw [show satpV a9 x = x from if_pos (Or.inl h0)])
      rw [EV.out]
      clear EV
      go_enter Tryd.func25, Tryd.ntmps25
      go_wp2_with fail
      refine ret_C rfl rfl rfl (c := [_, _, _, _, _, _, _, _, _, _, _, _]) (fresh2 w _ _ _) rfl ⟨?_, gr_alloc (gr_alloc (gr_refl _ _) _) _⟩
      rfl
    have d0 : (x / 1152921504606846976 == 0) = false := by simpa using h0
    by_cases h8 : x / 1152921504606846976 = 8
    · have EV := Lib.hid (show writeV [a0, a1, a2, a3, a4, a5, a6, a7, a8, a9, a10, a11] 384 x = [a0, a1, a2, a3, a4, a5, a6, a7, a8, x, a10, a11] by show [a0, a1, a2, a3, a4, a5, a6, a7, a8, satpV a9 x, a10, a11] = _; rw [show satpV a9 x = x from if_pos (Or.inr h8)])
      rw [EV.out]
      clear EV
      go_enter Tryd.func25, Tryd.ntmps25
      go_wp2_with fail
      refine ret_C rfl rfl rfl (c := [_, _, _, _, _, _, _, _, _, _, _, _]) (fresh2 w _ _ _) rfl ⟨?_, gr_alloc (gr_alloc (gr_refl _ _) _) _⟩
      rfl
    have d8 : (x / 1152921504606846976 == 8) = false := by simpa using h8
    have EV := Lib.hid (show writeV [a0, a1, a2, a3, a4, a5, a6, a7, a8, a9, a10, a11] 384 x = [a0, a1, a2, a3, a4, a5, a6, a7, a8, a9, a10, a11] by show [a0, a1, a2, a3, a4, a5, a6, a7, a8, satpV a9 x, a10, a11] = _; rw [show satpV a9 x = a9 from if_neg (by omega)])
    rw [EV.out]
    clear EV
    go_enter Tryd.func25, Tryd.ntmps25
    go_wp2_with fail
    refine ret_C rfl rfl rfl (c := [_, _, _, _, _, _, _, _, _, _, _, _]) (fresh2 w _ _ _) rfl ⟨?_, gr_alloc (gr_alloc (gr_refl _ _) _) _⟩
    rfl
  rw [write_none _ n x (by unfold ten; omega)]
  have d256 : (n == 256) = false := by simpa using h256
  have d260 : (n == 260) = false := by simpa using h260
  have d261 : (n == 261) = false := by simpa using h261
  have d262 : (n == 262) = false := by simpa using h262
  have d320 : (n == 320) = false := by simpa using h320
  have d321 : (n == 321) = false := by simpa using h321
  have d322 : (n == 322) = false := by simpa using h322
  have d323 : (n == 323) = false := by simpa using h323
  have d324 : (n == 324) = false := by simpa using h324
  have d384 : (n == 384) = false := by simpa using h384
  clear h256 h260 h261 h262 h320 h321 h322 h323 h324 h384
  go_enter Tryd.func25, Tryd.ntmps25
  go_wp2_with fail
  refine ret_C rfl rfl rfl (c := [_, _, _, _, _, _, _, _, _, _, _, _]) (fresh2 w _ _ _) rfl ⟨?_, gr_alloc (gr_alloc (gr_refl _ _) _) _⟩
  rfl
end Go.Proofs.YtkfmcbhoendocaaDoor
