/-
  Proved: for any page, any flags and any address, the law PteParts returns true: an address is made of its parts and what is within a page; what an entry makes of one is within its page, as it stands there; an entry's page and flags are those that it was made of.
  Conditions: none beyond the statement's own.
-/
import Derived.Test.YtopicfmlnfnliaaRows
import Derived.Test.YtopicfmlnfnliaaOpen
import Derived.Lib.Hide
import Derived.Deep.QuietTactic
import Derived.Test.YtopicfmlnfnliaaPteLw
import Derived.Test.YtopicfmlnfnliaaPteX
namespace Go.Proofs.Ytopicfmlnfnliaa.pteParts
open Go Go.ChangeShapes Go.WideShapes Go.ChangeAt Go.RowKit W M D A P
set_option linter.unusedVariables false

theorem quietly {P : Program} {f : FuncId} {args : Array Value} {W : World} {v : Value} {Q : World → Prop}
    (h : Calls P f args W fun e w' => e = .returned v ∧ W = w') (hQ : Q W) : Calls P f args W fun e w'' => e = .returned v ∧ Q w'' :=
  h.mono fun _ _ ⟨he, hw⟩ => ⟨he, hw ▸ hQ⟩
set_option maxRecDepth 100000 in
set_option maxHeartbeats 16000000 in
theorem walk (w : World) (a0 : Int) (w0 : (Lit.int .u64 a0).wf = true) (a1 : Int) (w1 : (Lit.int .u64 a1).wf = true) (a2 : Int) (w2 : (Lit.int .u64 a2).wf = true) :
    Calls Try.prog 5 #[.int .u64 a0, .int .u64 a1, .int .u64 a2] w fun e w' => e = .returned (.bool true) ∧ Below w.heap.size w w' := by
  have hp : B64 a0 := bounds_u64 w0
  have hf : B64 a1 := bounds_u64 w1
  have hv : B64 a2 := bounds_u64 w2
  clear w0 w1 w2
  have he : B64 (makeV a0 a1) := make_64 a0 a1
  have CM := Lib.hid (fun W => Make_c a0 a1 hp hf W)
  have CV0 := Lib.hid (fun W => Vpn_c a2 0 hv (by unfold I64; omega) W)
  have CV1 := Lib.hid (fun W => Vpn_c a2 1 hv (by unfold I64; omega) W)
  have CV2 := Lib.hid (fun W => Vpn_c a2 2 hv (by unfold I64; omega) W)
  have CP := Lib.hid (fun W => Page_c _ he W)
  rw [make_page] at CP
  have hs := parts hv
  have b0 := vpn_bd (n := 0) hv
  have b1 := vpn_bd (n := 1) hv
  have b2 := vpn_bd (n := 2) hv
  have hfl := make_flags (p := a0) (f := a1)
  have CA := Lib.hid (fun n hn W => At_c (makeV a0 a1) a2 n he hv hn W)
  have CG := Lib.hid (fun n hn W => Aligned_c (makeV a0 a1) n he hn W)
  have FN := Lib.hid (fun k hk => at_n k hk (p := a0) (f := a1) hv)
  have AB := Lib.hid (fun n => at_64 (n := n) he hv)
  have k1 := canon_low hv
  have k2 := canon_high hv
  have C1 := Lib.hid (fun W => Canonical_c _ k1.1 W)
  rw [k1.2] at C1
  have C2 := Lib.hid (fun W => Canonical_c _ k2.1 W)
  rw [k2.2] at C2
  have C3 := Lib.hid (fun W => Canonical_c _ hv W)
  have K3 := Lib.hid (canon_not hv)
  have kb := k2.1
  clear k1 k2
  have hpb : 0 ≤ a0 % 17592186044416 ∧ a0 % 17592186044416 ≤ 17592186044415 := by omega
  generalize vpnV a2 0 = q0 at *
  generalize vpnV a2 1 = q1 at *
  generalize vpnV a2 2 = q2 at *
  generalize makeV a0 a1 = e at *
  generalize canonV a2 = cb at *
  have HS := Lib.hid hs
  have HF := Lib.hid hfl
  clear hs hfl
  unfold B64 at hp hf hv he kb
  go_enter Try.func5, Try.ntmps5
  go_wp2_with fail
  refine (shown10_c _).mono ?_
  rintro r w1 ⟨rfl, hG⟩
  go_wp2_with fail
  refine (CM.out _).mono ?_
  rintro r w' ⟨rfl, rfl⟩
  go_wp2_with fail
  refine (CV2.out _).mono ?_
  rintro r w' ⟨rfl, rfl⟩
  go_wp2_with fail
  refine (CV1.out _).mono ?_
  rintro r w' ⟨rfl, rfl⟩
  go_wp2_with fail
  refine (CV0.out _).mono ?_
  rintro r w' ⟨rfl, rfl⟩
  have hs := HS.out
  have hfl := HF.out
  go_wp2_with fail
  refine (CP.out _).mono ?_
  rintro r w' ⟨rfl, rfl⟩
  go_wp2_with fail
  clear hs hfl b0 b1 b2 CV0 CV1 CV2 CM CP HS HF
  go_loopw [11] (fun i wr => ∃ k : Int, 0 ≤ k ∧ k ≤ 3 ∧ i = .int .i64 k ∧ w.grownBy wr none) (fun i _ => 3 - (intOf i).toNat)
  case atStart => exact ⟨0, by omega, by omega, rfl, hG⟩
  case round =>
    obtain ⟨k, hk0, hk3, rfl, hGk⟩ := hrel
    rcases (show k = 0 ∨ k = 1 ∨ k = 2 ∨ k = 3 by omega) with rfl | rfl | rfl | rfl
    · skip
      have fn := FN.out 0 (by omega)
      have ab := AB.out 0
      rw [show szV 0 = 4096 from rfl] at fn
      have CA' := Lib.hid (fun W => CA.out 0 (by unfold I64; omega) W)
      have CG' := Lib.hid (fun W => CG.out 0 (by unfold I64; omega) W)
      rw [fn.2.2] at CG'
      obtain ⟨f1, f2, -⟩ := fn
      generalize atV e a2 0 = A at *
      have F1 := Lib.hid f1
      have F2 := Lib.hid f2
      clear f1 f2
      unfold B64 at ab
      go_wp2_with fail
      refine (CA'.out _).mono ?_
      rintro r w' ⟨rfl, rfl⟩
      have f1 := F1.out
      have f2 := F2.out
      go_wp2_with fail
      go_quiet ((go_at_call 18; exact quietly (CG'.out _) ⟨_, rfl⟩))
      go_wp2_with fail
      refine ⟨⟨1, by omega, by omega, rfl, gr_drewN hGk _⟩, ?_⟩
      decide
    · skip
      have fn := FN.out 1 (by omega)
      have ab := AB.out 1
      rw [show szV 1 = 2097152 from rfl] at fn
      have CA' := Lib.hid (fun W => CA.out 1 (by unfold I64; omega) W)
      have CG' := Lib.hid (fun W => CG.out 1 (by unfold I64; omega) W)
      rw [fn.2.2] at CG'
      obtain ⟨f1, f2, -⟩ := fn
      generalize atV e a2 1 = A at *
      have F1 := Lib.hid f1
      have F2 := Lib.hid f2
      clear f1 f2
      unfold B64 at ab
      go_wp2_with fail
      refine (CA'.out _).mono ?_
      rintro r w' ⟨rfl, rfl⟩
      have f1 := F1.out
      have f2 := F2.out
      go_wp2_with fail
      by_cases hz : a0 % 17592186044416 * 4096 % 2097152 = 0
      · have hb : (a0 % 17592186044416 * 4096 % 2097152 == 0) = true := by simpa using hz
        rw [decide_eq_true hz] at CG'
        go_quiet ((go_at_call 18; exact quietly (CG'.out _) ⟨_, rfl⟩))
        go_wp2_with fail
        refine ⟨⟨2, by omega, by omega, rfl, gr_drewN hGk _⟩, ?_⟩
        decide
      · have hb : (a0 % 17592186044416 * 4096 % 2097152 == 0) = false := by simpa using hz
        rw [decide_eq_false hz] at CG'
        go_quiet ((go_at_call 18; exact quietly (CG'.out _) ⟨_, rfl⟩))
        go_wp2_with fail
        refine ⟨⟨2, by omega, by omega, rfl, gr_drewN hGk _⟩, ?_⟩
        decide
    · skip
      have fn := FN.out 2 (by omega)
      have ab := AB.out 2
      rw [show szV 2 = 1073741824 from rfl] at fn
      have CA' := Lib.hid (fun W => CA.out 2 (by unfold I64; omega) W)
      have CG' := Lib.hid (fun W => CG.out 2 (by unfold I64; omega) W)
      rw [fn.2.2] at CG'
      obtain ⟨f1, f2, -⟩ := fn
      generalize atV e a2 2 = A at *
      have F1 := Lib.hid f1
      have F2 := Lib.hid f2
      clear f1 f2
      unfold B64 at ab
      go_wp2_with fail
      refine (CA'.out _).mono ?_
      rintro r w' ⟨rfl, rfl⟩
      have f1 := F1.out
      have f2 := F2.out
      go_wp2_with fail
      by_cases hz : a0 % 17592186044416 * 4096 % 1073741824 = 0
      · have hb : (a0 % 17592186044416 * 4096 % 1073741824 == 0) = true := by simpa using hz
        rw [decide_eq_true hz] at CG'
        go_quiet ((go_at_call 18; exact quietly (CG'.out _) ⟨_, rfl⟩))
        go_wp2_with fail
        refine ⟨⟨3, by omega, by omega, rfl, gr_drewN hGk _⟩, ?_⟩
        decide
      · have hb : (a0 % 17592186044416 * 4096 % 1073741824 == 0) = false := by simpa using hz
        rw [decide_eq_false hz] at CG'
        go_quiet ((go_at_call 18; exact quietly (CG'.out _) ⟨_, rfl⟩))
        go_wp2_with fail
        refine ⟨⟨3, by omega, by omega, rfl, gr_drewN hGk _⟩, ?_⟩
        decide
    · go_wp2_with fail
      refine (C1.out _).mono ?_
      rintro r w' ⟨rfl, rfl⟩
      go_wp2_with fail
      refine (C2.out _).mono ?_
      rintro r w' ⟨rfl, rfl⟩
      go_wp2_with fail
      refine (C3.out _).mono ?_
      rintro r w' ⟨rfl, rfl⟩
      by_cases h1 : a2 / 274877906944 = 0
      · have hc : cb = true := by rw [K3.out]; simp [h1]
        subst hc
        go_wp2_with fail
        go_ret
        exact ⟨rfl, gr_below hGk⟩
      · have hb1 : (a2 / 274877906944 == 0) = false := by simpa using h1
        have hx := xor_all a2 hv
        by_cases h2 : (18446744073709551615 - a2) / 274877906944 = 0
        · have hb2 : (bits .xor .u64 IntKind.u64.max a2 / 274877906944 == 0) = true := by rw [hx]; simpa using h2
          have hc : cb = true := by rw [K3.out]; simp [h2]
          subst hc
          clear hx
          go_wp2_with fail
          go_ret
          exact ⟨pret_boo (by first | rfl | (rw [hb2]; rfl)), gr_below hGk⟩
        · have hb2 : (bits .xor .u64 IntKind.u64.max a2 / 274877906944 == 0) = false := by rw [hx]; simpa using h2
          have hc : cb = false := by rw [K3.out]; simp [h1, h2]
          subst hc
          clear hx
          go_wp2_with fail
          go_ret
          exact ⟨pret_boo (by first | rfl | (rw [hb2]; rfl)), gr_below hGk⟩

theorem own : ownKnob Try.prog.godebug = none := by kernel_rfl
theorem laidOut : laidOutB Try.prog = true := by kernel_rfl

set_option maxRecDepth 100000 in
theorem lifted (os : Os) (started : os.Started) (H : Type) (enc : TypeId × Value → H) :
    ReturnsInHanded {} Try.checked os 5 .any (Rows.ptePartsSpec.pre6 enc Try.prog Try.f5 Rows.ptePartsRow.domain false) (Rows.ptePartsSpec.post enc Try.prog Try.f5 false true false false) := by
  refine returnsInHanded_of_change (C := Try.checked) own started (by kernel_rfl) Try.func5
    (ChangeSpec.witness6 (enc := enc) (C := Try.checked) false ⟨#[], #[.int .u64 0, .int .u64 0, .int .u64 0], []⟩ 8 (by kernel_rfl) (by kernel_rfl) (by kernel_rfl) (by kernel_rfl)) ?_
  intro W base args ds gs before hval0 hW hcnd _
  have hval : ∀ (j : Nat) t v, Try.f5.params[j]? = some t → args[j]? = some v → Value.okWide Try.prog W .any base t v := hval0
  have hW' := hW
  obtain ⟨p, q, hA0, hV, rfl, hfz, hnd⟩ := hW
  have hA : DataW.TrodAll enc Try.prog W 0 (fun _ => true) true Try.f5.params.toList args.toList ds p := hA0
  rw [Try.params5] at hA hval
  obtain ⟨v0, vs0, d0, ds0, p0, q0, hargs, rfl, rfl, h0, r0⟩ := trodAll_cons hA
  obtain ⟨v1, vs1, d1, ds1, p1, q1, rfl, rfl, rfl, h1, r1⟩ := trodAll_cons r0
  obtain ⟨v2, vs2, d2, ds2, p2, q2, rfl, rfl, rfl, h2, r2⟩ := trodAll_cons r1
  obtain ⟨rfl, rfl, rfl⟩ := trodAll_nil r2
  obtain rfl : args = #[v0, v1, v2] := by cases args; simp_all
  obtain ⟨rfl, rfl⟩ := trodVars_none hV
  clear hA0 hval0 hA
  have k0 := h0
  have lt0 : ∀ x ∈ p0, x.block < W.heap.size := by obtain ⟨m, hm⟩ := k0; exact DataW.trod_lt m _ _ _ hm
  obtain ⟨a0, rfl, rfl, rfl, w0⟩ := open_int Try.underlying22 (hval 0 22 v0 rfl rfl) h0
  have k1 := h1
  have lt1 : ∀ x ∈ p1, x.block < W.heap.size := by obtain ⟨m, hm⟩ := k1; exact DataW.trod_lt m _ _ _ hm
  obtain ⟨a1, rfl, rfl, rfl, w1⟩ := open_int Try.underlying22 (hval 1 22 v1 rfl rfl) h1
  have k2 := h2
  have lt2 : ∀ x ∈ p2, x.block < W.heap.size := by obtain ⟨m, hm⟩ := k2; exact DataW.trod_lt m _ _ _ hm
  obtain ⟨a2, rfl, rfl, rfl, w2⟩ := open_int Try.underlying22 (hval 2 22 v2 rfl rfl) h2
  refine (walk W a0 w0 a1 w1 a2 w2).mono fun e W' ⟨he, bel⟩ => ?_
  subst he
  exact ⟨_, rfl, _, _, _, [], _, [], hW', trodAll_mk1 (shut_bool Try.underlying4 _), (trodAll_cons_mk (Below.trod laidOut (by kernel_rfl) (of_decide_eq_true (by kernel_rfl)) k0 bel lt0) (trodAll_cons_mk (Below.trod laidOut (by kernel_rfl) (of_decide_eq_true (by kernel_rfl)) k1 bel lt1) (trodAll_cons_mk (Below.trod laidOut (by kernel_rfl) (of_decide_eq_true (by kernel_rfl)) k2 bel lt2) trodAll_mk0))), rfl, bel.frame _, fun h => by cases h⟩

theorem over : Rows.ptePartsRow.holds Try.pinned (OpenSpec.ofChange Rows.ptePartsSpec) :=
  OpenClaim.holds_of_wide 5 Try.f5 rfl rfl rfl rfl rfl rfl rfl ⟨rfl, rfl, rfl, rfl, rfl⟩ rfl rfl rfl rfl rfl (by kernel_rfl) Try.func5 (by kernel_rfl)
    (of_decide_eq_true (by kernel_rfl)) (by unfold Func.isWrapper; first | (rw [if_pos (by decide +kernel)]; kernel_rfl) | (rw [if_neg (by decide +kernel)]; exact ⟨rfl, rfl⟩))
    (fun os started H enc _ => lifted os started H enc)

/-- The statement. -/
theorem proved : Rows.PtePartsSaid := over
#print axioms proved

end Go.Proofs.Ytopicfmlnfnliaa.pteParts
