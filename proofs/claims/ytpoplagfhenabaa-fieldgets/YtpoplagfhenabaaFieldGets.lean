/-
  Proved: for any word, any place in it and any two numbers of bits, the law FieldGets returns true.
  Conditions: none beyond the statement's own.
-/
import Derived.Test.YtpoplagfhenabaaRows
import Derived.Test.YtpoplagfhenabaaOpen
import Derived.Lib.Hide
import Derived.Test.YtpoplagfhenabaaFieldLaw
namespace Go.Proofs.Ytpoplagfhenabaa.fieldGets
open Go Go.ChangeShapes Go.WideShapes Go.ChangeAt Go.RowKit F W M
set_option linter.unusedVariables false

theorem sum_join (A B C n : Nat) (hA : A < 65536) (hC : C < 4294967296) (h : C = A + 2 ^ n * B) : ((A : Int) + (B : Int) * 2 ^ n % 18446744073709551616) % 18446744073709551616 = C := by
  rw [cast_pow, ← Int.natCast_mul, Nat.mul_comm B]; omega

set_option maxHeartbeats 1000000 in
theorem walk (w : World) (a0 : Int) (w0 : (Lit.int .u32 a0).wf = true) (a1 : Int) (w1 : (Lit.int .u8 a1).wf = true) (a2_0 : Int) (w2_0 : (Lit.int .u8 a2_0).wf = true) (a2_1 : Int) (w2_1 : (Lit.int .u8 a2_1).wf = true) :
    Calls Try.prog 5 #[.int .u32 a0, .int .u8 a1, .agg #[.int .u8 a2_0, .int .u8 a2_1]] w fun e w' => e = .returned (.bool true) ∧ Below w.heap.size w w' := by
  have h0 := bounds_u32 w0
  have h1 := bounds_u8 w1
  have h2 := bounds_u8 w2_0
  have h3 := bounds_u8 w2_1
  clear w0 w1 w2_0 w2_1
  obtain ⟨x, rfl⟩ : ∃ x : Nat, a0 = x := ⟨a0.toNat, by omega⟩
  have hx : x < 4294967296 := by omega
  obtain ⟨k, hk, ek, _⟩ := b_and31 a1 h1
  obtain ⟨p, hp, ep⟩ := b_and15 a2_0 h2
  obtain ⟨q, hq, eq⟩ := b_and15 a2_1 h3
  obtain ⟨n, en⟩ : ∃ n : Nat, (1 : Int) + p = n := ⟨1 + p, by omega⟩
  obtain ⟨m, em⟩ : ∃ m : Nat, (1 : Int) + q = m := ⟨1 + q, by omega⟩
  have hn : 1 ≤ n ∧ n ≤ 16 := by omega
  have hm : 1 ≤ m ∧ m ≤ 16 := by omega
  have hn1 : 1 ≤ n := hn.1
  have hn2 : n ≤ 16 := hn.2
  have hm1 : 1 ≤ m := hm.1
  have hm2 : m ≤ 16 := hm.2
  have HR := Lib.hid (Row.fresh w 34 [.int .u8 a2_0, .int .u8 a2_1])
  go_enter Try.func5, Try.ntmps5
  go_wp2_with fail
  refine (shown03_c _).mono ?_
  rintro e w1 ⟨rfl, hG⟩
  have hR := HR.out.grown hG (by simp)
  have c0 := hR.cell 0
  have c1 := hR.cell 1
  simp only [List.getElem?_cons_zero, List.getElem?_cons_succ] at c0 c1
  clear HR
  go_wp2_with fail
  refine (Get_c x k n hx (by omega) (by omega) _).mono ?_
  rintro e w2 ⟨rfl, d1, rfl⟩
  rw [gotV_nat x k n hn1]
  go_wp2_with fail
  refine (Get_c x (k + n : Nat) m hx (by omega) (by omega) _).mono ?_
  rintro e w2 ⟨rfl, d2, rfl⟩
  rw [gotV_nat x (k + n) m hm1]
  go_wp2_with fail
  refine (Get_c x k (n + m : Nat) hx (by omega) (by omega) _).mono ?_
  rintro e w2 ⟨rfl, d3, rfl⟩
  rw [gotV_nat x k (n + m) (by omega)]
  have j := get_join x k n m
  have hA := get_lt x k n
  have hB := get_lt x (k + n) m
  have hC := get_le x k (n + m)
  have pn : (2 : Nat) ^ n ≤ 2 ^ 16 := Nat.pow_le_pow_right (by omega) hn2
  have pm : (2 : Nat) ^ m ≤ 2 ^ 16 := Nat.pow_le_pow_right (by omega) hm2
  rw [show (2 : Nat) ^ 16 = 65536 from rfl] at pn pm
  have tA : (get x k n : Int) < 2 ^ n % 4294967296 := by rw [cast_pow]; omega
  have tB : (get x (k + n) m : Int) < 2 ^ m % 4294967296 := by rw [cast_pow]; omega
  generalize get x k n = A at *
  generalize get x (k + n) m = B at *
  generalize get x k (n + m) = C at *
  have hBb : B < 65536 := by omega
  have hAb : A < 65536 := by omega
  have hCb : C < 4294967296 := by omega
  have hS := sum_join A B C n (by omega) (by omega) j
  have HJ := Lib.hid j
  clear j hA hB hC pn pm
  go_wp2_with fail
  refine (Get_c x 0 32 hx (by omega) (by omega) _).mono ?_
  rintro e w2 ⟨rfl, d4, rfl⟩
  rw [get_all x hx]
  go_wp2_with fail
  refine (Get_c x 32 1 hx (by omega) (by omega) _).mono ?_
  rintro e w2 ⟨rfl, d5, rfl⟩
  rw [get_top x hx]
  go_wp2_with fail
  refine (Get_c x k 0 hx (by omega) (by omega) _).mono ?_
  rintro e w2 ⟨rfl, d6, rfl⟩
  rw [get_none]
  go_wp2_with fail
  go_ret
  exact ⟨rfl, below_drewN (gr_below (gr_trans (gr_alloc (gr_refl _ _) _) hG)) _⟩

theorem own : ownKnob Try.prog.godebug = none := by kernel_rfl
theorem laidOut : laidOutB Try.prog = true := by kernel_rfl

set_option maxRecDepth 100000 in
theorem lifted (os : Os) (started : os.Started) (H : Type) (enc : TypeId × Value → H) :
    ReturnsInHanded {} Try.checked os 5 .any (Rows.fieldGetsSpec.pre6 enc Try.prog Try.f5 Rows.fieldGetsRow.domain false) (Rows.fieldGetsSpec.post enc Try.prog Try.f5 false true false false) := by
  refine returnsInHanded_of_change (C := Try.checked) own started (by kernel_rfl) Try.func5
    (ChangeSpec.witness6 (enc := enc) (C := Try.checked) false ⟨#[], #[.int .u32 0, .int .u8 0, .agg #[.int .u8 0, .int .u8 0]], []⟩ 8 (by kernel_rfl) (by kernel_rfl) (by kernel_rfl) (by kernel_rfl)) ?_
  intro W base args ds gs before hval0 hW hcnd _
  have hval : ∀ (j : Nat) t v, Try.f5.params[j]? = some t → args[j]? = some v → Value.okWide Try.prog W .any base t v := hval0
  have hW' := hW
  obtain ⟨p, q, hA0, hV, rfl, hfz, hnd⟩ := hW
  have hA : DataW.TrodAll enc Try.prog W 0 (fun _ => true) true Try.f5.params.toList args.toList ds p := hA0
  rw [Try.params5] at hA hval
  obtain ⟨v0, vs0, d0, ds0, p0, q0, hargs, rfl, rfl, h0, r0⟩ := trodAll_cons hA
  obtain ⟨v1, vs1, d1, ds1, p1, q1, rfl, rfl, rfl, h1, r1⟩ := trodAll_cons r0
  obtain ⟨v2, vs2, d2, ds2, p2, q2, rfl, rfl, rfl, h2, r2⟩ := trodAll_cons r1
  obtain ⟨rfl, rfl, rfl⟩ := trodAll_nil r2
  obtain rfl : args = #[v0, v1, v2] := by cases args; simp_all
  obtain ⟨rfl, rfl⟩ := trodVars_none hV
  clear hA0 hval0 hA
  have k0 := h0
  have lt0 : ∀ x ∈ p0, x.block < W.heap.size := by obtain ⟨m, hm⟩ := k0; exact DataW.trod_lt m _ _ _ hm
  obtain ⟨a0, rfl, rfl, rfl, w0⟩ := open_int Try.underlying22 (hval 0 22 v0 rfl rfl) h0
  have k1 := h1
  have lt1 : ∀ x ∈ p1, x.block < W.heap.size := by obtain ⟨m, hm⟩ := k1; exact DataW.trod_lt m _ _ _ hm
  obtain ⟨a1, rfl, rfl, rfl, w1⟩ := open_int Try.underlying5 (hval 1 5 v1 rfl rfl) h1
  have k2 := h2
  have lt2 : ∀ x ∈ p2, x.block < W.heap.size := by obtain ⟨m, hm⟩ := k2; exact DataW.trod_lt m _ _ _ hm
  obtain ⟨xs2, rfl, l2, w2⟩ := Op.open_arr_int Try.underlying34 Try.underlying5 (by kernel_rfl) (by kernel_rfl) (hval 2 34 v2 rfl rfl) h2
  obtain _ | ⟨a2_0, xs2⟩ := xs2
  · simp at l2
  obtain _ | ⟨a2_1, xs2⟩ := xs2
  · simp at l2
  obtain _ | ⟨_, _⟩ := xs2
  rotate_left
  · simp at l2
  clear h2
  simp only [List.map_cons, List.map_nil] at *
  have w2_0 := w2 a2_0 (by simp)
  have w2_1 := w2 a2_1 (by simp)
  refine (walk W a0 w0 a1 w1 a2_0 w2_0 a2_1 w2_1).mono fun e W' ⟨he, bel⟩ => ?_
  subst he
  exact ⟨_, rfl, _, _, _, [], _, [], hW', trodAll_mk1 (shut_bool Try.underlying4 _), (trodAll_cons_mk (Below.trod laidOut (by kernel_rfl) (of_decide_eq_true (by kernel_rfl)) k0 bel lt0) (trodAll_cons_mk (Below.trod laidOut (by kernel_rfl) (of_decide_eq_true (by kernel_rfl)) k1 bel lt1) (trodAll_cons_mk (Below.trod laidOut (by kernel_rfl) (of_decide_eq_true (by kernel_rfl)) k2 bel lt2) trodAll_mk0))), rfl, bel.frame _, fun h => by cases h⟩

theorem over : Rows.fieldGetsRow.holds Try.pinned (OpenSpec.ofChange Rows.fieldGetsSpec) :=
  OpenClaim.holds_of_wide 5 Try.f5 rfl rfl rfl rfl rfl rfl rfl ⟨rfl, rfl, rfl, rfl, rfl⟩ rfl rfl rfl rfl rfl (by kernel_rfl) Try.func5 (by kernel_rfl)
    (of_decide_eq_true (by kernel_rfl)) (by unfold Func.isWrapper; first | (rw [if_pos (by decide +kernel)]; kernel_rfl) | (rw [if_neg (by decide +kernel)]; exact ⟨rfl, rfl⟩))
    (fun os started H enc _ => lifted os started H enc)

/-- The statement. -/
theorem proved : Rows.FieldGetsSaid := over
#print axioms proved

end Go.Proofs.Ytpoplagfhenabaa.fieldGets
