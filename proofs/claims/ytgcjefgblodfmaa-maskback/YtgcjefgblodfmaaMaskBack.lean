/-
  Proved: for any mask and any number of harts, the law MaskBack returns true: the harts of a mask, as a mask again, are that mask; they rise, and are below how many there are; and a base of all ones means all.
  Conditions: none beyond the statement's own.
-/
import Derived.Test.YtgcjefgblodfmaaRows
import Derived.Test.YtgcjefgblodfmaaLayO
import Derived.Test.YtgcjefgblodfmaaMaskD
import Derived.Deep.Cut
namespace Go.Proofs.Ytgcjefgblodfmaa.maskBack
open Go Go.ChangeShapes Go.WideShapes Go.ChangeAt Go.RowKit W M A Mk
set_option linter.unusedVariables false
set_option linter.unusedSimpArgs false

set_option maxRecDepth 100000 in
set_option maxHeartbeats 4000000 in
theorem walk (w : World) (a0 : Int) (w0 : (Lit.int .u64 a0).wf = true) (a1 : Int) (w1 : (Lit.int .i64 a1).wf = true) :
    Calls Try.prog 4 #[.int .u64 a0, .int .i64 a1] w fun e w' => e = .returned (.bool true) ∧ Below w.heap.size w w' := by
  have h0 := bounds_u64 w0
  have h1 := bounds_i64 w1
  clear w0 w1
  obtain ⟨m, rfl⟩ : ∃ m : Nat, a0 = m := ⟨a0.toNat, by omega⟩
  have hm : m < 18446744073709551616 := by omega
  have C0 := Lib.hid (fun W => Harts_c m 0 a1 hm (by decide) h1 W)
  have C1 := Lib.hid (fun W => Harts_c m 18446744073709551615 a1 hm (by decide) h1 W)
  have hle := many_le a1
  have hmm := many_int a1
  have hth := there_iff (N := manyV a1) hm (by omega)
  have hso := fun l (h : pickV m 0 (manyV a1) 64 = some l) (i : Nat) (hi : i < l.length) => pick_sorted h hi
  have hof := fun l (h : pickV m 0 (manyV a1) 64 = some l) => of_pick hm h
  have hle2 := fun l (h : pickV m 0 (manyV a1) 64 = some l) => pick_length h
  rw [harts_zero] at C0
  rw [show hartsV m 18446744073709551615 a1 = (firstsV (manyV a1), true) from rfl] at C1
  have hfl := firsts_length (manyV a1)
  generalize manyV a1 = N at *
  generalize firstsV N = F at *
  have hm' : (if 8 < if a1 < 0 then 0 else a1 then 8 else if a1 < 0 then 0 else a1) = (N : Int) := by
    rw [hmm]
    split
    · split at * <;> omega
    · split at * <;> omega
  clear hmm h0
  have hd : ((m : Int) / 2 ^ N == 0) = (pickV m 0 N 64).isSome := by
    rw [hth, show ((2 ^ N : Nat) : Int) = 2 ^ N by simp]
    by_cases h : (m : Int) / 2 ^ N = 0
    · rw [h]; rfl
    · rw [decide_eq_false h]; simpa using h
  clear hth
  generalize hp : pickV m 0 N 64 = p at *
  clear hp
  cases p with
  | none =>
    rw [show (none : Option (List Int)).isSome = false from rfl] at hd
    clear hso hof hle2
    go_enter Try.func4, Try.ntmps4
    go_wp2_with fail
    refine (shown16_c _).mono ?_
    rintro e w1 ⟨rfl, hG⟩
    have HG := Lib.hid hG
    clear hG
    go_wp2_with fail
    refine (C0.out _).mono ?_
    rintro e w2 ⟨v1, rfl, hA, hG⟩
    obtain ⟨A, cap, rfl⟩ := hA.form
    rw [show (ansV none).1.length = 0 from rfl, show (ansV none).2 = false from rfl]
    have HG2 := Lib.hid (gr_trans HG.out hG)
    clear hG hA HG
    go_wp2_with fail
    refine (C1.out _).mono ?_
    rintro e w3 ⟨v2, rfl, hA, hG⟩
    obtain ⟨A2, cap2, rfl⟩ := hA.form
    have HG3 := Lib.hid (gr_trans HG2.out hG)
    clear hG hA HG2
    rw [hfl]
    go_upto_region 5 with (fail)
    generalize (if a1 < 0 then (0 : Int) else a1) = n0 at *
    clear hm'
    go_wp2_with fail
    go_loopw [11] (fun x wr => x = .int .i64 0 ∧ w.grownBy wr none) (fun x _ => 0)
    case atStart => exact ⟨rfl, HG3.out⟩
    case round =>
      obtain ⟨rfl, hG⟩ := hrel
      have HG := Lib.hid hG
      clear hG
      go_wp2_with fail
      go_ret
      exact ⟨rfl, gr_below HG.out⟩
  | some l =>
    rw [show (some l : Option (List Int)).isSome = true from rfl] at hd
    have HSO := Lib.hid (hso l rfl)
    have HOF := Lib.hid (hof l rfl)
    have hl := hle2 l rfl
    rw [show ansV (some l) = (l, true) from rfl] at C0
    clear hso hof hle2
    go_enter Try.func4, Try.ntmps4
    go_wp2_with fail
    refine (shown16_c _).mono ?_
    rintro e w1 ⟨rfl, hG⟩
    have HG := Lib.hid hG
    clear hG
    go_wp2_with fail
    refine (C0.out _).mono ?_
    rintro e w2 ⟨v1, rfl, hA, hG⟩
    have hfm : ∃ A cap, v1 = .slice A l.length cap ∧ (0 < l.length → ∃ g, A = some ⟨g, 0, none⟩) := by
      rcases hA.parts with ⟨rfl, rfl⟩ | ⟨g, c, cur, rfl, -⟩
      · exact ⟨none, 0, rfl, fun h => absurd h (by simp)⟩
      · exact ⟨_, c, rfl, fun _ => ⟨g, rfl⟩⟩
    obtain ⟨A, cap, rfl, hfg⟩ := hfm
    have HFG := Lib.hid hfg
    have HA := Lib.hid hA.sees
    clear hfg
    have HG2 := Lib.hid (gr_trans HG.out hG)
    clear hG hA HG
    go_wp2_with fail
    refine (C1.out _).mono ?_
    rintro e w3 ⟨v2, rfl, hA, hG⟩
    obtain ⟨A2, cap2, rfl⟩ := hA.form
    have HG3 := Lib.hid (gr_trans HG2.out hG)
    have HA3 := Lib.hid (HA.out.kept hG)
    clear hG hA HG2 HA
    rw [hfl]
    go_upto_region 5 with (fail)
    generalize (if a1 < 0 then (0 : Int) else a1) = n0 at *
    clear hm'
    go_wp2_with fail
    go_loopw [11] (fun x wr => ∃ i : Nat, x = .int .i64 i ∧ i ≤ l.length ∧ Sees wr (.slice A l.length cap) l ∧ w.grownBy wr none) (fun x _ => l.length - (intOf x).toNat)
    case atStart => exact ⟨0, rfl, Nat.zero_le _, HA3.out, HG3.out⟩
    case round =>
      clear HA3 HG3
      obtain ⟨i, rfl, hi, hS, hG⟩ := hrel
      by_cases hlt : i < l.length
      · have hs := HSO.out i hlt
        have HS := Lib.hid hS
        obtain ⟨g, rfl⟩ := HFG.out (by omega)
        obtain ⟨A', c', e1, -, hcell⟩ := hS
        have hat : ∀ k, k < l.length → wr.cell? ⟨g, k, none⟩ = some (.int .i64 (l.getD k 0)) := by
          intro k hk
          obtain ⟨ad, e2, -, hx⟩ := hcell k hk
          injection e1 with q1 q2 q3
          rw [← q1] at e2
          injection e2 with e2
          rw [← e2, addr_add, Nat.zero_add] at hx
          exact hx
        have hx := hat i hlt
        clear hcell e1
        have HGG := Lib.hid hG
        clear hG
        by_cases hz : i = 0
        · subst hz
          obtain ⟨s1, s2, -⟩ := hs
          clear hat
          generalize l.getD 0 0 = x at *
          have b1 : decide (x < 0) = false := decide_eq_false (by omega)
          have b2 : decide ((N : Int) ≤ x) = false := decide_eq_false (by omega)
          go_wp2_with fail
          go_region
          all_goals
            go_wp2_with fail
            go_roundw
            case rel => exact ⟨1, by go_num, by omega, HS.out.drew, gr_drew HGG.out⟩
            case measure => simp [intOf]; omega
        · obtain ⟨j, rfl⟩ : ∃ j, i = j + 1 := ⟨i - 1, by omega⟩
          have hy := hat j (by omega)
          have hj : (0 : Int) ≤ (j : Int) + 1 := by omega
          obtain ⟨s1, s2, s3⟩ := hs
          have s4 := s3 (by omega)
          rw [Nat.add_sub_cancel] at s4
          clear hat s3
          generalize l.getD (j + 1) 0 = x at *
          generalize l.getD j 0 = y at *
          have b1 : decide (x < 0) = false := decide_eq_false (by omega)
          have b2 : decide ((N : Int) ≤ x) = false := decide_eq_false (by omega)
          have b3 : decide (x ≤ y) = false := decide_eq_false (by omega)
          go_wp2_with fail
          go_region
          all_goals
            go_wp2_with fail
            go_roundw
            case rel => exact ⟨j + 1 + 1, by go_num, by omega, HS.out.drew, gr_drew HGG.out⟩
            case measure => simp [intOf]; omega
      · obtain rfl : i = l.length := by omega
        have HS := Lib.hid hS
        have HG := Lib.hid hG
        clear hS hG
        go_wp2_with fail
        refine (Of_c _ _ (by omega) _ HS.out).mono ?_
        rintro e w5 ⟨rfl, rfl⟩
        rw [HOF.out]
        go_wp2_with fail
        go_ret
        exact ⟨rfl, gr_below HG.out⟩

theorem own : ownKnob Try.prog.godebug = none := by kernel_rfl
theorem laidOut : laidOutB Try.prog = true := by kernel_rfl

set_option maxRecDepth 100000 in
theorem lifted (os : Os) (started : os.Started) (H : Type) (enc : TypeId × Value → H) :
    ReturnsInHanded {} Try.checked os 4 .any (Rows.maskBackSpec.pre6 enc Try.prog Try.f4 Rows.maskBackRow.domain false) (Rows.maskBackSpec.post enc Try.prog Try.f4 false true false false) := by
  refine returnsInHanded_of_change (C := Try.checked) own started (by kernel_rfl) Try.func4
    (ChangeSpec.witness6 (enc := enc) (C := Try.checked) false ⟨#[], #[.int .u64 0, .int .i64 0], []⟩ 8 (by kernel_rfl) (by kernel_rfl) (by kernel_rfl) (by kernel_rfl)) ?_
  intro W base args ds gs before hval0 hW hcnd _
  have hval : ∀ (j : Nat) t v, Try.f4.params[j]? = some t → args[j]? = some v → Value.okWide Try.prog W .any base t v := hval0
  have hW' := hW
  obtain ⟨p, q, hA0, hV, rfl, hfz, hnd⟩ := hW
  have hA : DataW.TrodAll enc Try.prog W 0 (fun _ => true) true Try.f4.params.toList args.toList ds p := hA0
  rw [Try.params4] at hA hval
  obtain ⟨v0, vs0, d0, ds0, p0, q0, hargs, rfl, rfl, h0, r0⟩ := trodAll_cons hA
  obtain ⟨v1, vs1, d1, ds1, p1, q1, rfl, rfl, rfl, h1, r1⟩ := trodAll_cons r0
  obtain ⟨rfl, rfl, rfl⟩ := trodAll_nil r1
  obtain rfl : args = #[v0, v1] := by cases args; simp_all
  obtain ⟨rfl, rfl⟩ := trodVars_none hV
  clear hA0 hval0 hA
  have k0 := h0
  have lt0 : ∀ x ∈ p0, x.block < W.heap.size := by obtain ⟨m, hm⟩ := k0; exact DataW.trod_lt m _ _ _ hm
  obtain ⟨a0, rfl, rfl, rfl, w0⟩ := open_int Try.underlying22 (hval 0 22 v0 rfl rfl) h0
  have k1 := h1
  have lt1 : ∀ x ∈ p1, x.block < W.heap.size := by obtain ⟨m, hm⟩ := k1; exact DataW.trod_lt m _ _ _ hm
  obtain ⟨a1, rfl, rfl, rfl, w1⟩ := open_int Try.underlying3 (hval 1 3 v1 rfl rfl) h1
  refine (walk W a0 w0 a1 w1).mono fun e W' ⟨he, bel⟩ => ?_
  subst he
  exact ⟨_, rfl, _, _, _, [], _, [], hW', trodAll_mk1 (shut_bool Try.underlying4 _), (trodAll_cons_mk (Below.trod laidOut (by kernel_rfl) (of_decide_eq_true (by kernel_rfl)) k0 bel lt0) (trodAll_cons_mk (Below.trod laidOut (by kernel_rfl) (of_decide_eq_true (by kernel_rfl)) k1 bel lt1) trodAll_mk0)), rfl, bel.frame _, fun h => by cases h⟩

theorem over : Rows.maskBackRow.holds Try.pinned (OpenSpec.ofChange Rows.maskBackSpec) :=
  OpenClaim.holds_of_wide 4 Try.f4 rfl rfl rfl rfl rfl rfl rfl ⟨rfl, rfl, rfl, rfl, rfl⟩ rfl rfl rfl rfl rfl (by kernel_rfl) Try.func4 (by kernel_rfl)
    (of_decide_eq_true (by kernel_rfl)) (by unfold Func.isWrapper; first | (rw [if_pos (by decide +kernel)]; kernel_rfl) | (rw [if_neg (by decide +kernel)]; exact ⟨rfl, rfl⟩))
    (fun os started H enc _ => lifted os started H enc)

/-- The statement. -/
theorem proved : Rows.MaskBackSaid := over
#print axioms proved

end Go.Proofs.Ytgcjefgblodfmaa.maskBack
