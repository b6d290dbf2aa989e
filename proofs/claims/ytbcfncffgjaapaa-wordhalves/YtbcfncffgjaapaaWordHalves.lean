/-
  Proved: for any two numbers of 64 bits, each signed or not, the law WordHalves returns true.
  Conditions: none beyond the statement's own.
-/
import Derived.Test.YtbcfncffgjaapaaRows
import Derived.Test.YtbcfncffgjaapaaOpen
import Derived.Lib.Hide
import Derived.Test.YtbcfncffgjaapaaWordLaw
import Derived.Test.YtbcfncffgjaapaaWordM
namespace Go.Proofs.Ytbcfncffgjaapaa.wordHalves
open Go Go.ChangeShapes Go.WideShapes Go.ChangeAt Go.RowKit W
set_option linter.unusedVariables false

theorem below_alloc1 (w : World) (o1 : Obj) : Below w.heap.size w (w.alloc o1) := (Below.refl _ _).alloc (Nat.le_refl _) o1

set_option maxHeartbeats 400000 in
theorem walk (a0 : Int) (w0 : (Lit.int .u64 a0).wf = true) (a1 : Int) (w1 : (Lit.int .u64 a1).wf = true) (a2_0 : Bool) (a2_1 : Bool) (w : World) :
    Calls Try.prog 5 #[.int .u64 a0, .int .u64 a1, .agg #[.bool a2_0, .bool a2_1]] w fun e w' => e = .returned (.bool true) ∧ Below w.heap.size w w' := by
  have ha := bounds_u64 w0
  have hb := bounds_u64 w1
  clear w0 w1
  have HC := Lib.hid (highV_comm a0 a1 a2_0 a2_1)
  have HA := Lib.hid (and_all a0 ha)
  have HB := Lib.hid (and_all a1 hb)
  go_enter Try.func5, Try.ntmps5
  go_wp2_with fail
  refine (shown01_c _).mono ?_
  rintro e w' ⟨rfl, rfl⟩
  go_wp2_with fail
  refine (High_c _ _ _ _ ha hb _).mono ?_
  rintro e w' ⟨rfl, rfl⟩
  go_wp2_with fail
  refine (High_c _ _ _ _ hb ha _).mono ?_
  rintro e w' ⟨rfl, rfl⟩
  rw [HC.out]
  by_cases hz : a1 = 18446744073709551615 ∨ a1 = 9223372036854775807
  · by_cases h1 : a1 = 18446744073709551615
    · subst h1
      go_wp2_with fail
      go_ret
      exact ⟨rfl, below_alloc1 _ _⟩
    · have h2 : a1 = 9223372036854775807 := by omega
      subst h2
      go_wp2_with fail
      go_ret
      exact ⟨rfl, below_alloc1 _ _⟩
  · have e1 : (a1 == 18446744073709551615) = false := by simp; omega
    have e2 : (a1 == 9223372036854775807) = false := by simp; omega
    have hb1 : a1 ≤ 18446744073709551614 := by omega
    have HN := Lib.hid (highV_next a0 a1 a2_0 a2_1 ha ⟨hb.1, hb1⟩ (by omega))
    clear hz
    have hA := HA.out; have hB := HB.out
    clear HA HB HC
    by_cases hl : IntKind.u64.wrap (IntKind.u64.wrap (a0 * a1) + a0) < IntKind.u64.wrap (a0 * a1)
    · cases a2_0
      · have hN : highV a0 (a1 + 1) false a2_1 = IntKind.u64.wrap (highV a0 a1 false a2_1 + 1) := by
          have hh := highV_bd a0 a1 false a2_1
          rw [HN.out, if_pos hl, if_neg (by simp)]
          (try simp only [u64_eq]); omega
        clear HN
        go_wp2_with fail
        refine (High_c _ _ _ _ ha ⟨by omega, by omega⟩ _).mono ?_
        rintro e w' ⟨rfl, rfl⟩
        rw [hN]
        go_wp2_with fail
        go_ret
        exact ⟨rfl, below_alloc1 _ _⟩
      · by_cases hs : 9223372036854775808 ≤ a0
        · have hd : a0 / 9223372036854775808 = 1 := by omega
          have hN : highV a0 (a1 + 1) true a2_1 = IntKind.u64.wrap (IntKind.u64.wrap (highV a0 a1 true a2_1 + 1) - 1) := by
            have hh := highV_bd a0 a1 true a2_1
            rw [HN.out, if_pos hl, if_pos (⟨rfl, hs⟩)]
            (try simp only [u64_eq]); omega
          clear HN
          go_wp2_with fail
          refine (High_c _ _ _ _ ha ⟨by omega, by omega⟩ _).mono ?_
          rintro e w' ⟨rfl, rfl⟩
          rw [hN]
          go_wp2_with fail
          go_ret
          exact ⟨rfl, below_alloc1 _ _⟩
        · have hd : (a0 / 9223372036854775808 == 1) = false := by simp; omega
          have hN : highV a0 (a1 + 1) true a2_1 = IntKind.u64.wrap (highV a0 a1 true a2_1 + 1) := by
            have hh := highV_bd a0 a1 true a2_1
            rw [HN.out, if_pos hl, if_neg (fun h => hs h.2)]
            (try simp only [u64_eq]); omega
          clear HN
          go_wp2_with fail
          refine (High_c _ _ _ _ ha ⟨by omega, by omega⟩ _).mono ?_
          rintro e w' ⟨rfl, rfl⟩
          rw [hN]
          go_wp2_with fail
          go_ret
          exact ⟨rfl, below_alloc1 _ _⟩
    · cases a2_0
      · have hN : highV a0 (a1 + 1) false a2_1 = highV a0 a1 false a2_1 := by
          have hh := highV_bd a0 a1 false a2_1
          rw [HN.out, if_neg hl, if_neg (by simp)]
          (try simp only [u64_eq]); omega
        clear HN
        go_wp2_with fail
        refine (High_c _ _ _ _ ha ⟨by omega, by omega⟩ _).mono ?_
        rintro e w' ⟨rfl, rfl⟩
        rw [hN]
        go_wp2_with fail
        go_ret
        exact ⟨rfl, below_alloc1 _ _⟩
      · by_cases hs : 9223372036854775808 ≤ a0
        · have hd : a0 / 9223372036854775808 = 1 := by omega
          have hN : highV a0 (a1 + 1) true a2_1 = IntKind.u64.wrap (highV a0 a1 true a2_1 - 1) := by
            have hh := highV_bd a0 a1 true a2_1
            rw [HN.out, if_neg hl, if_pos (⟨rfl, hs⟩)]
            (try simp only [u64_eq]); omega
          clear HN
          go_wp2_with fail
          refine (High_c _ _ _ _ ha ⟨by omega, by omega⟩ _).mono ?_
          rintro e w' ⟨rfl, rfl⟩
          rw [hN]
          go_wp2_with fail
          go_ret
          exact ⟨rfl, below_alloc1 _ _⟩
        · have hd : (a0 / 9223372036854775808 == 1) = false := by simp; omega
          have hN : highV a0 (a1 + 1) true a2_1 = highV a0 a1 true a2_1 := by
            have hh := highV_bd a0 a1 true a2_1
            rw [HN.out, if_neg hl, if_neg (fun h => hs h.2)]
            (try simp only [u64_eq]); omega
          clear HN
          go_wp2_with fail
          refine (High_c _ _ _ _ ha ⟨by omega, by omega⟩ _).mono ?_
          rintro e w' ⟨rfl, rfl⟩
          rw [hN]
          go_wp2_with fail
          go_ret
          exact ⟨rfl, below_alloc1 _ _⟩

theorem own : ownKnob Try.prog.godebug = none := by kernel_rfl
theorem laidOut : laidOutB Try.prog = true := by kernel_rfl

set_option maxRecDepth 100000 in
theorem lifted (os : Os) (started : os.Started) (H : Type) (enc : TypeId × Value → H) :
    ReturnsInHanded {} Try.checked os 5 .any (Rows.wordHalvesSpec.pre6 enc Try.prog Try.f5 Rows.wordHalvesRow.domain false) (Rows.wordHalvesSpec.post enc Try.prog Try.f5 false true false false) := by
  refine returnsInHanded_of_change (C := Try.checked) own started (by kernel_rfl) Try.func5
    (ChangeSpec.witness6 (enc := enc) (C := Try.checked) false ⟨#[], #[.int .u64 0, .int .u64 0, .agg #[.bool false, .bool false]], []⟩ 8 (by kernel_rfl) (by kernel_rfl) (by kernel_rfl) (by kernel_rfl)) ?_
  intro W base args ds gs before hval0 hW hcnd _
  have hval : ∀ (j : Nat) t v, Try.f5.params[j]? = some t → args[j]? = some v → Value.okWide Try.prog W .any base t v := hval0
  have hW' := hW
  obtain ⟨p, q, hA0, hV, rfl, hfz, hnd⟩ := hW
  have hA : DataW.TrodAll enc Try.prog W 0 (fun _ => true) true Try.f5.params.toList args.toList ds p := hA0
  rw [Try.params5] at hA hval
  obtain ⟨v0, vs0, d0, ds0, p0, q0, hargs, rfl, rfl, h0, r0⟩ := trodAll_cons hA
  obtain ⟨v1, vs1, d1, ds1, p1, q1, rfl, rfl, rfl, h1, r1⟩ := trodAll_cons r0
  obtain ⟨v2, vs2, d2, ds2, p2, q2, rfl, rfl, rfl, h2, r2⟩ := trodAll_cons r1
  obtain ⟨rfl, rfl, rfl⟩ := trodAll_nil r2
  obtain rfl : args = #[v0, v1, v2] := by cases args; simp_all
  obtain ⟨rfl, rfl⟩ := trodVars_none hV
  clear hA0 hval0 hA
  have k0 := h0
  have lt0 : ∀ x ∈ p0, x.block < W.heap.size := by obtain ⟨m, hm⟩ := k0; exact DataW.trod_lt m _ _ _ hm
  obtain ⟨a0, rfl, rfl, rfl, w0⟩ := open_int Try.underlying22 (hval 0 22 v0 rfl rfl) h0
  have k1 := h1
  have lt1 : ∀ x ∈ p1, x.block < W.heap.size := by obtain ⟨m, hm⟩ := k1; exact DataW.trod_lt m _ _ _ hm
  obtain ⟨a1, rfl, rfl, rfl, w1⟩ := open_int Try.underlying22 (hval 1 22 v1 rfl rfl) h1
  have k2 := h2
  have lt2 : ∀ x ∈ p2, x.block < W.heap.size := by obtain ⟨m, hm⟩ := k2; exact DataW.trod_lt m _ _ _ hm
  obtain ⟨xs2, rfl, l2⟩ := Op.open_arr_bool Try.underlying33 Try.underlying4 (by kernel_rfl) (by kernel_rfl) (hval 2 33 v2 rfl rfl) h2
  obtain _ | ⟨a2_0, xs2⟩ := xs2
  · simp at l2
  obtain _ | ⟨a2_1, xs2⟩ := xs2
  · simp at l2
  obtain _ | ⟨_, _⟩ := xs2
  rotate_left
  · simp at l2
  clear h2
  simp only [List.map_cons, List.map_nil] at *
  refine (walk a0 w0 a1 w1 a2_0 a2_1 W).mono fun e W' ⟨he, bel⟩ => ?_
  subst he
  exact ⟨_, rfl, _, _, _, [], _, [], hW', trodAll_mk1 (shut_bool Try.underlying4 _), (trodAll_cons_mk (Below.trod laidOut (by kernel_rfl) (of_decide_eq_true (by kernel_rfl)) k0 bel lt0) (trodAll_cons_mk (Below.trod laidOut (by kernel_rfl) (of_decide_eq_true (by kernel_rfl)) k1 bel lt1) (trodAll_cons_mk (Below.trod laidOut (by kernel_rfl) (of_decide_eq_true (by kernel_rfl)) k2 bel lt2) trodAll_mk0))), rfl, bel.frame _, fun h => by cases h⟩

theorem over : Rows.wordHalvesRow.holds Try.pinned (OpenSpec.ofChange Rows.wordHalvesSpec) :=
  OpenClaim.holds_of_wide 5 Try.f5 rfl rfl rfl rfl rfl rfl rfl ⟨rfl, rfl, rfl, rfl, rfl⟩ rfl rfl rfl rfl rfl (by kernel_rfl) Try.func5 (by kernel_rfl)
    (of_decide_eq_true (by kernel_rfl)) (by unfold Func.isWrapper; first | (rw [if_pos (by decide +kernel)]; kernel_rfl) | (rw [if_neg (by decide +kernel)]; exact ⟨rfl, rfl⟩))
    (fun os started H enc _ => lifted os started H enc)

/-- The statement. -/
theorem proved : Rows.WordHalvesSaid := over
#print axioms proved

end Go.Proofs.Ytbcfncffgjaapaa.wordHalves
