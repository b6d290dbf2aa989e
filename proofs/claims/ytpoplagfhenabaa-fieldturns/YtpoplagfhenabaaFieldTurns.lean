/-
  Proved: for any word, any bit of it and any format, the law FieldTurns returns true.
  Conditions: none beyond the statement's own.
-/
import Derived.Test.YtpoplagfhenabaaRows
import Derived.Test.YtpoplagfhenabaaOpen
import Derived.Lib.Hide
import Derived.Test.YtpoplagfhenabaaFieldTurnsA
import Derived.Test.YtpoplagfhenabaaFieldTurnsB
namespace Go.Proofs.Ytpoplagfhenabaa.fieldTurns
open Go Go.ChangeShapes Go.WideShapes Go.ChangeAt Go.RowKit F W M
set_option linter.unusedVariables false

set_option maxRecDepth 100000 in
set_option maxHeartbeats 4000000 in
theorem walk (w : World) (a0 : Int) (w0 : (Lit.int .u32 a0).wf = true) (a1 : Int) (w1 : (Lit.int .u8 a1).wf = true) (a2 : Int) (w2 : (Lit.int .u8 a2).wf = true) :
    Calls Try.prog 6 #[.int .u32 a0, .int .u8 a1, .int .u8 a2] w fun e w' => e = .returned (.bool true) ∧ Below w.heap.size w w' := by
  have h0 := bounds_u32 w0
  have h1 := bounds_u8 w1
  have h2 := bounds_u8 w2
  clear w0 w1 w2
  by_cases h7 : 7 ≤ a1 % 32
  · by_cases h3 : a2 % 5 < 2
    · exact walkA w a0 a1 a2 h0 h1 h2 (by omega) h7
    · exact walkB w a0 a1 a2 h0 h1 h2 (by omega) h7
  · obtain ⟨x, rfl⟩ : ∃ x : Nat, a0 = x := ⟨a0.toNat, by omega⟩
    have hx : x < 4294967296 := by omega
    obtain ⟨k, hk, ek, e32⟩ := b_and31 a1 h1
    obtain ⟨f, ef⟩ : ∃ f : Int, 1 + a2 % 5 = f := ⟨_, rfl⟩
    have hf : 1 ≤ f ∧ f ≤ 5 := by omega
    have X := xor_word x k hx hk
    have ex := X.1
    have hy := X.2
    have HA := Lib.hid (imm_u64 x f hf)
    have HB := Lib.hid (imm_u64 (x ^^^ 2 ^ k) f hf)
    clear X
    go_enter Try.func6, Try.ntmps6
    go_wp2_with fail
    refine (shown03_c _).mono ?_
    rintro e w1 ⟨rfl, hG⟩
    go_wp2_with fail
    refine (Imm_c x f hx (by omega) _).mono ?_
    rintro e w2 ⟨rfl, hG2⟩
    have eA := HA.out
    go_wp2_with fail
    refine (Imm_c (x ^^^ 2 ^ k) f hy (by omega) _).mono ?_
    rintro e w3 ⟨rfl, hG3⟩
    have eB := HB.out
    have TO := Lib.hid (turn_out x k f hf hk)
    have T31 := Lib.hid (fun (h : k = 31) => (h ▸ turn_31 x f hf : immU x f ^^^ immU (x ^^^ 2 ^ k) f ≠ 0 ∧ immU x f / 2 ^ 63 ≠ immU (x ^^^ 2 ^ k) f / 2 ^ 63))
    have T1 := Lib.hid (turn_one x k f hf hk)
    have hA := immU_lt x f hf
    have hB := immU_lt (x ^^^ 2 ^ k) f hf
    have eX := u64_xor_nat _ _ hA hB
    have hX : immU x f ^^^ immU (x ^^^ 2 ^ k) f < 18446744073709551616 := Nat.xor_lt_two_pow (n := 64) hA hB
    have eN := and_less _ hX
    have HG := Lib.hid (gr_below (gr_trans (gr_trans hG hG2) hG3))
    clear ef eA ek ex HA HB hG hG2 hG3
    generalize hXe : immU x f ^^^ immU (x ^^^ 2 ^ k) f = X at *
    clear hXe
    generalize immU x f = A at *
    generalize immU (x ^^^ 2 ^ k) f = B at *
    generalize immV (x ^^^ 2 ^ k) f = q at *
    generalize immV x f = q1 at *
    have k7 : k < 7 := by omega
    clear h7 e32
    have hX0 := TO.out (by simp [outs]; omega)
    subst hX0
    clear T31 T1 TO eN hX
    go_wp2_with fail
    go_ret
    exact ⟨rfl, HG.out⟩

theorem own : ownKnob Try.prog.godebug = none := by kernel_rfl
theorem laidOut : laidOutB Try.prog = true := by kernel_rfl

set_option maxRecDepth 100000 in
theorem lifted (os : Os) (started : os.Started) (H : Type) (enc : TypeId × Value → H) :
    ReturnsInHanded {} Try.checked os 6 .any (Rows.fieldTurnsSpec.pre6 enc Try.prog Try.f6 Rows.fieldTurnsRow.domain false) (Rows.fieldTurnsSpec.post enc Try.prog Try.f6 false true false false) := by
  refine returnsInHanded_of_change (C := Try.checked) own started (by kernel_rfl) Try.func6
    (ChangeSpec.witness6 (enc := enc) (C := Try.checked) false ⟨#[], #[.int .u32 0, .int .u8 0, .int .u8 0], []⟩ 8 (by kernel_rfl) (by kernel_rfl) (by kernel_rfl) (by kernel_rfl)) ?_
  intro W base args ds gs before hval0 hW hcnd _
  have hval : ∀ (j : Nat) t v, Try.f6.params[j]? = some t → args[j]? = some v → Value.okWide Try.prog W .any base t v := hval0
  have hW' := hW
  obtain ⟨p, q, hA0, hV, rfl, hfz, hnd⟩ := hW
  have hA : DataW.TrodAll enc Try.prog W 0 (fun _ => true) true Try.f6.params.toList args.toList ds p := hA0
  rw [Try.params6] at hA hval
  obtain ⟨v0, vs0, d0, ds0, p0, q0, hargs, rfl, rfl, h0, r0⟩ := trodAll_cons hA
  obtain ⟨v1, vs1, d1, ds1, p1, q1, rfl, rfl, rfl, h1, r1⟩ := trodAll_cons r0
  obtain ⟨v2, vs2, d2, ds2, p2, q2, rfl, rfl, rfl, h2, r2⟩ := trodAll_cons r1
  obtain ⟨rfl, rfl, rfl⟩ := trodAll_nil r2
  obtain rfl : args = #[v0, v1, v2] := by cases args; simp_all
  obtain ⟨rfl, rfl⟩ := trodVars_none hV
  clear hA0 hval0 hA
  have k0 := h0
  have lt0 : ∀ x ∈ p0, x.block < W.heap.size := by obtain ⟨m, hm⟩ := k0; exact DataW.trod_lt m _ _ _ hm
  obtain ⟨a0, rfl, rfl, rfl, w0⟩ := open_int Try.underlying22 (hval 0 22 v0 rfl rfl) h0
  have k1 := h1
  have lt1 : ∀ x ∈ p1, x.block < W.heap.size := by obtain ⟨m, hm⟩ := k1; exact DataW.trod_lt m _ _ _ hm
  obtain ⟨a1, rfl, rfl, rfl, w1⟩ := open_int Try.underlying5 (hval 1 5 v1 rfl rfl) h1
  have k2 := h2
  have lt2 : ∀ x ∈ p2, x.block < W.heap.size := by obtain ⟨m, hm⟩ := k2; exact DataW.trod_lt m _ _ _ hm
  obtain ⟨a2, rfl, rfl, rfl, w2⟩ := open_int Try.underlying5 (hval 2 5 v2 rfl rfl) h2
  refine (walk W a0 w0 a1 w1 a2 w2).mono fun e W' ⟨he, bel⟩ => ?_
  subst he
  exact ⟨_, rfl, _, _, _, [], _, [], hW', trodAll_mk1 (shut_bool Try.underlying4 _), (trodAll_cons_mk (Below.trod laidOut (by kernel_rfl) (of_decide_eq_true (by kernel_rfl)) k0 bel lt0) (trodAll_cons_mk (Below.trod laidOut (by kernel_rfl) (of_decide_eq_true (by kernel_rfl)) k1 bel lt1) (trodAll_cons_mk (Below.trod laidOut (by kernel_rfl) (of_decide_eq_true (by kernel_rfl)) k2 bel lt2) trodAll_mk0))), rfl, bel.frame _, fun h => by cases h⟩

theorem over : Rows.fieldTurnsRow.holds Try.pinned (OpenSpec.ofChange Rows.fieldTurnsSpec) :=
  OpenClaim.holds_of_wide 6 Try.f6 rfl rfl rfl rfl rfl rfl rfl ⟨rfl, rfl, rfl, rfl, rfl⟩ rfl rfl rfl rfl rfl (by kernel_rfl) Try.func6 (by kernel_rfl)
    (of_decide_eq_true (by kernel_rfl)) (by unfold Func.isWrapper; first | (rw [if_pos (by decide +kernel)]; kernel_rfl) | (rw [if_neg (by decide +kernel)]; exact ⟨rfl, rfl⟩))
    (fun os started H enc _ => lifted os started H enc)

/-- The statement. -/
theorem proved : Rows.FieldTurnsSaid := over
#print axioms proved

end Go.Proofs.Ytpoplagfhenabaa.fieldTurns
