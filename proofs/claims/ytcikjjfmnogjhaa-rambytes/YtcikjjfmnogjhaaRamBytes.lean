/-
  Proved: for any bytes, any place and any part of them, the law RamBytes returns true: bytes that are loaded are told, in whole and in part, numbers are made of them, and what is not there all is refused in whole.
  Conditions: none beyond the statement's own.
-/
import Derived.Test.YtcikjjfmnogjhaaRows
import Derived.Test.YtcikjjfmnogjhaaOpen
import Derived.Lib.Hide
import Derived.Deep.QuietTactic
import Derived.BigQuiet
import Derived.IntWalk
import Derived.Test.YtcikjjfmnogjhaaRamLaw
namespace Go.Proofs.Ytcikjjfmnogjhaa.ramBytes
open Go Go.ChangeShapes Go.WideShapes Go.ChangeAt Go.RowKit M
set_option linter.unusedVariables false

set_option maxRecDepth 100000 in
set_option maxHeartbeats 2000000 in
theorem walk (w : World) (A0 : Option Addr) (m0 c0 : Nat) (z0 : List Int) (s0 : M.Shows w w.heap.size A0 m0 z0) (mc0 : m0 ≤ c0) (cc0 : c0 ≤ 9223372036854775807) (a1 : Int) (w1 : (Lit.int .u16 a1).wf = true) (a2_0 : Int) (w2_0 : (Lit.int .u8 a2_0).wf = true) (a2_1 : Int) (w2_1 : (Lit.int .u8 a2_1).wf = true) :
    Calls Try.prog 6 #[.slice A0 m0 c0, .int .u16 a1, .agg #[.int .u8 a2_0, .int .u8 a2_1]] w fun e w' => e = .returned (.bool true) ∧ Below w.heap.size w w' := by
  have ha := bounds_u16 w1
  have hp := bounds_u8 w2_0
  have hq := bounds_u8 w2_1
  clear w1 w2_0 w2_1
  obtain ⟨m, hm⟩ : ∃ m, m = min m0 300 := ⟨_, rfl⟩
  have hS := s0.short (k := m) (by omega)
  have hadr : 0 < m0 → ∃ ad, A0 = some ad := fun h => by obtain ⟨ad, h, _⟩ := s0.2.2 h; exact ⟨ad, h⟩
  obtain ⟨zs, hz⟩ : ∃ zs, zs = z0.take m := ⟨_, rfl⟩
  rw [← hz] at hS
  have HZL := Lib.hid hS.1
  have m300 : m ≤ 300 := by omega
  have mm0 : m ≤ m0 := by omega
  have HM := Lib.hid hm
  clear hz hm
  obtain ⟨t, ht⟩ : ∃ t : Nat, a1 % 4096 = t := ⟨(a1 % 4096).toNat, by omega⟩
  have htb : t < 4096 := by omega
  have hRow := Row.fresh w 54 [.int .u8 a2_0, .int .u8 a2_1]
  have hBel : Below w.heap.size w (w.alloc (.cells #[.int .u8 a2_0, .int .u8 a2_1] 54)) := (Below.refl _ _).alloc (Nat.le_refl _) _
  have HRow := Lib.hid hRow
  clear hRow
  go_enter Try.func6, Try.ntmps6
  go_wp2_with fail
  refine (shown02_c _).mono ?_
  rintro e wa ⟨rfl, hGa⟩
  have HRa := Lib.hid (HRow.out.grown hGa (by simp))
  have hBa := hBel.grown hGa (by simp) (by simp)
  clear HRow hBel hGa
  go_wp2_with fail
  refine (New_yes 1 (by omega) (by omega) _).mono ?_
  rintro e wb ⟨rfl, hA, hGb⟩
  have HRb := Lib.hid (HRa.out.grown hGb (by simp))
  have hBb := hBa.grown hGb hBa.size (by simp)
  have hsz := HRa.out.lt
  clear HRa hBa hGb
  obtain ⟨bs0, hbs0⟩ : ∃ l, l = List.replicate (1 * 4096) (0 : Int) := ⟨_, rfl⟩
  rw [← hbs0] at hA
  have HL0 : Hid (bs0.length = 4096) := Lib.hid (by rw [hbs0, List.length_replicate])
  have H00 : Hid (∀ k, bs0.getD k 0 = 0) := Lib.hid (fun k => by rw [hbs0, List.getD, List.getElem?_replicate]; split <;> rfl)
  clear hbs0
  go_wp2_with fail
  refine (short_c A0 m0 c0 m _ HM.out hadr mc0 cc0).mono ?_
  rintro e w' ⟨rfl, rfl⟩
  go_wp2_with fail
  refine (Load_c _ _ _ _ _ _ _ _ zs _ hA (hS.below hBb) (by omega) (by omega)).mono ?_
  rintro e wc ⟨rfl, hA2, hGc⟩
  have hBc := hBb.grown hGc hBb.size (by intro k hk; injection hk with hk; omega)
  have HRc := Lib.hid (HRb.out.grown hGc (by intro hk; injection hk with hk; omega))
  have hSc := hS.below hBc
  obtain ⟨bs1, hbs⟩ : ∃ l, l = loadV bs0 (2147483648 + (t : Int)) zs := ⟨_, rfl⟩
  rw [← hbs] at hA2
  have HL1 : Hid (bs1.length = 4096) := Lib.hid (by rw [hbs, loadV_length]; exact HL0.out)
  have HBS := Lib.hid hbs
  clear hbs hBb hS hGc HRb hA
  by_cases hfit : t + m ≤ 4096
  · have hF : hasB bs0.length (2147483648 + (t : Int)) (zs.length : Int) = true := by rw [HZL.out, HL0.out]; simp [hasB]; omega
    have hF1 : hasB bs1.length (2147483648 + (t : Int)) (m : Int) = true := by rw [HL1.out]; simp [hasB]; omega
    have HE : Hid (bs1 = splice bs0 t zs) := Lib.hid (by
      rw [HBS.out, loadV, if_pos hF, show offV (2147483648 + (t : Int)) = t from by unfold offV; omega])
    rw [hF]
    have HF1 := Lib.hid hF1
    clear hF hF1
    by_cases h0 : m = 0
    · subst h0
      go_wp2_with fail
      refine (Has_c _ _ bs1 _ _ _ hA2 (by omega) (by omega)).mono ?_
      rintro e w' ⟨rfl, rfl⟩
      rw [show hasB bs1.length (2147483648 + (t : Int)) (0 : Int) = true from HF1.out]
      go_wp2_with fail
      go_ret
      exact ⟨rfl, hBc⟩
    · have hm1 : 1 ≤ m := by omega
      obtain ⟨ad, rfl⟩ := hadr (by have := HM.out; omega)
      obtain ⟨i, hi⟩ : ∃ i : Nat, a2_0 % (m : Int) = i := ⟨(a2_0 % (m : Int)).toNat, by have := Int.emod_nonneg a2_0 (show (m : Int) ≠ 0 by omega); omega⟩
      have hib : i < m := by have := Int.emod_lt_of_pos a2_0 (show (0 : Int) < m by omega); omega
      obtain ⟨n, hn⟩ : ∃ n : Nat, a2_1 % ((m : Int) - i + 1) = n := ⟨(a2_1 % ((m : Int) - i + 1)).toNat, by have := Int.emod_nonneg a2_1 (show (m : Int) - i + 1 ≠ 0 by omega); omega⟩
      have hnb : n ≤ m - i := by have := Int.emod_lt_of_pos a2_1 (show (0 : Int) < (m : Int) - i + 1 by omega); omega
      have c0' := HRc.out.cell 0
      have c1' := HRc.out.cell 1
      simp only [List.getElem?_cons_zero, List.getElem?_cons_succ] at c0' c1'
      go_wp2_with fail
      refine (Has_c _ _ bs1 _ _ _ hA2 (by omega) (by omega)).mono ?_
      rintro e w' ⟨rfl, rfl⟩
      rw [HF1.out]
      go_wp2_with fail
      have hpart : (bs1.drop (t + i)).take n = (zs.drop i).take n := by
        have e := splice_self bs0 t zs (by rw [HZL.out, HL0.out]; exact hfit)
        rw [← HE.out] at e
        rw [← e, List.drop_take, List.drop_drop, List.take_take, HZL.out, Nat.min_eq_left (by omega)]
      have hbyte : (bs1.drop (t + i)).take 1 = [zs.getD i 0] := by
        have e := splice_self bs0 t zs (by rw [HZL.out, HL0.out]; exact hfit)
        rw [← HE.out] at e
        have : (bs1.drop (t + i)).take 1 = (zs.drop i).take 1 := by
          rw [← e, List.drop_take, List.drop_drop, List.take_take, HZL.out, Nat.min_eq_left (by omega)]
        have hl : i < zs.length := by rw [HZL.out]; exact hib
        rw [this, List.drop_eq_getElem_cons hl, List.getD, List.getElem?_eq_getElem hl]
        rfl
      have hoff : offV (2147483648 + (t : Int) + i) = t + i := by unfold offV; omega
      have hB1 : hasB bs1.length (2147483648 + (t : Int) + i) n = true := by rw [HL1.out]; simp [hasB]; omega
      have hB2 : okB bs1.length (2147483648 + (t : Int) + i) 1 = true := by rw [HL1.out]; simp [okB, widB, hasB]; omega
      have hcs := Bytes_yes _ _ bs1 (2147483648 + (t : Int) + i) n _ hA2 (by omega) hB1
      rw [hoff, Int.toNat_natCast, hpart] at hcs
      refine hcs.mono ?_
      rintro e wd ⟨rfl, hRd, hGd⟩
      have hA3 := hA2.kept hGd
      have hBd := hBc.grown hGd hBc.size (by simp)
      have hSd := hSc.below ((gr_below hGd).mono hBc.size)
      have hcg := Get_yes _ _ bs1 (2147483648 + (t : Int) + i) 1 _ hA3 (by omega) hB2
      rw [hoff, show (1 : Int).toNat = 1 from rfl, hbyte, show leV [zs.getD i 0] = zs.getD i 0 from by simp [leV]] at hcg
      have hbt := hSd.2.1 (zs.getD i 0) (by rw [List.getD, List.getElem?_eq_getElem (show i < zs.length by rw [HZL.out]; exact hib)]; simp)
      obtain ⟨X, hX⟩ : ∃ X, X = (zs.drop i).take n := ⟨_, rfl⟩
      have hpl : X.length = n := by rw [hX, List.length_take, List.length_drop, HZL.out]; omega
      have hT1 : ∀ d, (convert 32 9 (.slice (some ⟨wc.heap.size, 0, none⟩) n n)).run Try.prog (wd.drewN d) = .ok (.string (strOfNums X)) (wd.drewN d) := by
        intro d
        have hsh : Shows (wd.drewN d) _ _ _ _ := hRd.shows (take_byt (drop_byt hSd.2.1 i) n)
        have := hsh.text (P := Try.prog) 32 5 9 n Try.underlying32 Try.underlying5 Try.underlying9
        rwa [← hX, hpl] at this
      have hT2 : ∀ d, (convert 32 9 (.slice (some (ad.add i)) n (c0 - i))).run Try.prog (wd.drewN d) = .ok (.string (strOfNums X)) (wd.drewN d) := by
        intro d
        have hsh : Shows (wd.drewN d) _ _ _ _ := hSd.part (i := i) (n := n) (by omega) (some (ad.add i)) (fun _ => rfl)
        have := hsh.text (P := Try.prog) 32 5 9 (c0 - i) Try.underlying32 Try.underlying5 Try.underlying9
        rwa [← hX] at this
      rw [← hX, hpl]
      obtain ⟨ad', hadr', hblk, hcells⟩ := hSd.2.2 (by omega)
      have hci := hcells i hib
      injection hadr' with hadr'
      subst hadr'
      obtain ⟨b, hb⟩ : ∃ b, b = zs.getD i 0 := ⟨_, rfl⟩
      rw [← hb] at hci hcg hbt
      have hne : ¬ c0 = i := by omega
      have hw1 : IntKind.i64.wrap ((i : Int) + n) = (i : Int) + n := IntWalk.i64_in _ (by omega)
      have HHcg := Lib.hid hcg
      clear hcs hpart hbyte hoff hB1 hB2 hcg hpl c0' c1' hX hb hcells
      go_wp2_with fail
      refine HHcg.out.mono ?_
      rintro e w' ⟨rfl, rfl⟩
      go_wp2_with fail
      go_quiet (fail)
      go_wp2_with fail
      go_ret
      exact ⟨rfl, below_drewN hBd _⟩
  · have hF : hasB bs0.length (2147483648 + (t : Int)) (zs.length : Int) = false := by rw [HZL.out, HL0.out]; simp [hasB]; omega
    have hF1 : hasB bs1.length (2147483648 + (t : Int)) (m : Int) = false := by rw [HL1.out]; simp [hasB]; omega
    have HE : Hid (bs1 = bs0) := Lib.hid (by rw [HBS.out, loadV, if_neg (by rw [hF]; simp)])
    rw [hF]
    have HF1 := Lib.hid hF1
    have hd : decide ((2147483648 : Int) + (t : Int) - 2147483648 + (m : Int) ≤ 4096) = false := decide_eq_false (by omega)
    clear hF hF1
    go_wp2_with fail
    refine (Has_c _ _ bs1 _ _ _ hA2 (by omega) (by omega)).mono ?_
    rintro e w' ⟨rfl, rfl⟩
    rw [HF1.out]
    go_wp2_with fail
    have hB1 : hasB bs1.length 2147483648 4096 = true := by rw [HL1.out]; simp [hasB]
    refine (Bytes_yes _ _ bs1 2147483648 4096 _ hA2 (by omega) hB1).mono ?_
    rintro e wd ⟨rfl, hRd, hGd⟩
    obtain ⟨X, hX⟩ : ∃ X, X = (bs1.drop (offV 2147483648)).take (4096 : Int).toNat := ⟨_, rfl⟩
    rw [← hX] at hRd ⊢
    have hXb : X = bs0 := by
      rw [hX, HE.out, show offV 2147483648 = 0 from rfl, List.drop_zero, List.take_of_length_le (by rw [HL0.out]; decide)]
    have hpl : X.length = 4096 := by rw [hXb]; exact HL0.out
    rw [hpl]
    have HC : Hid (∀ k, k < 4096 → wd.cell? ⟨wc.heap.size, k, none⟩ = some (.int .u8 0)) := Lib.hid (fun k hk => by
      rw [hRd.cell, vals_get, List.getElem?_eq_getElem (by omega)]
      have := H00.out k
      rw [← hXb, List.getD, List.getElem?_eq_getElem (by omega)] at this
      simpa using this)
    have hBd := hBc.grown hGd hBc.size (by simp)
    clear hX hXb hpl hB1
    go_wp2_with fail
    go_loop [15] (fun i => ∃ k : Nat, k ≤ 4096 ∧ i = .int .i64 k) (fun i => 4096 - (intOf i).toNat)
    case atStart => exact ⟨0, by omega, rfl⟩
    case round =>
      obtain ⟨k, hk, rfl⟩ := hrel
      by_cases hlt : k < 4096
      · have hc := HC.out k hlt
        go_wp2
        go_round
        case rel => exact ⟨k + 1, by omega, by go_num⟩
        case measure => simp [intOf]; omega
      · obtain rfl : k = 4096 := by omega
        go_wp2
        go_ret
        exact ⟨rfl, hBd⟩

theorem own : ownKnob Try.prog.godebug = none := by kernel_rfl
theorem laidOut : laidOutB Try.prog = true := by kernel_rfl

set_option maxRecDepth 100000 in
theorem lifted (os : Os) (started : os.Started) (H : Type) (enc : TypeId × Value → H) :
    ReturnsInHanded {} Try.checked os 6 .any (Rows.ramBytesSpec.pre6 enc Try.prog Try.f6 Rows.ramBytesRow.domain false) (Rows.ramBytesSpec.post enc Try.prog Try.f6 false true false false) := by
  refine returnsInHanded_of_change (C := Try.checked) own started (by kernel_rfl) Try.func6
    (ChangeSpec.witness6 (enc := enc) (C := Try.checked) false ⟨#[], #[.slice none 0 0, .int .u16 0, .agg #[.int .u8 0, .int .u8 0]], []⟩ 8 (by kernel_rfl) (by kernel_rfl) (by kernel_rfl) (by kernel_rfl)) ?_
  intro W base args ds gs before hval0 hW hcnd _
  have hval : ∀ (j : Nat) t v, Try.f6.params[j]? = some t → args[j]? = some v → Value.okWide Try.prog W .any base t v := hval0
  have hW' := hW
  obtain ⟨p, q, hA0, hV, rfl, hfz, hnd⟩ := hW
  have hA : DataW.TrodAll enc Try.prog W 0 (fun _ => true) true Try.f6.params.toList args.toList ds p := hA0
  rw [Try.params6] at hA hval
  obtain ⟨v0, vs0, d0, ds0, p0, q0, hargs, rfl, rfl, h0, r0⟩ := trodAll_cons hA
  obtain ⟨v1, vs1, d1, ds1, p1, q1, rfl, rfl, rfl, h1, r1⟩ := trodAll_cons r0
  obtain ⟨v2, vs2, d2, ds2, p2, q2, rfl, rfl, rfl, h2, r2⟩ := trodAll_cons r1
  obtain ⟨rfl, rfl, rfl⟩ := trodAll_nil r2
  obtain rfl : args = #[v0, v1, v2] := by cases args; simp_all
  obtain ⟨rfl, rfl⟩ := trodVars_none hV
  clear hA0 hval0 hA
  have k0 := h0
  have lt0 : ∀ x ∈ p0, x.block < W.heap.size := by obtain ⟨m, hm⟩ := k0; exact DataW.trod_lt m _ _ _ hm
  obtain ⟨A0, m0, c0, z0, rfl, s0, mc0, cc0⟩ := M.open_bytes Try.underlying32 Try.underlying5 (by kernel_rfl) (hval 0 32 v0 rfl rfl) h0
  have k1 := h1
  have lt1 : ∀ x ∈ p1, x.block < W.heap.size := by obtain ⟨m, hm⟩ := k1; exact DataW.trod_lt m _ _ _ hm
  obtain ⟨a1, rfl, rfl, rfl, w1⟩ := open_int Try.underlying48 (hval 1 48 v1 rfl rfl) h1
  have k2 := h2
  have lt2 : ∀ x ∈ p2, x.block < W.heap.size := by obtain ⟨m, hm⟩ := k2; exact DataW.trod_lt m _ _ _ hm
  obtain ⟨xs2, rfl, l2, w2⟩ := Op.open_arr_int Try.underlying54 Try.underlying5 (by kernel_rfl) (by kernel_rfl) (hval 2 54 v2 rfl rfl) h2
  obtain _ | ⟨a2_0, xs2⟩ := xs2
  · simp at l2
  obtain _ | ⟨a2_1, xs2⟩ := xs2
  · simp at l2
  obtain _ | ⟨_, _⟩ := xs2
  rotate_left
  · simp at l2
  clear h2
  simp only [List.map_cons, List.map_nil] at *
  have w2_0 := w2 a2_0 (by simp)
  have w2_1 := w2 a2_1 (by simp)
  refine (walk W A0 m0 c0 z0 s0 mc0 cc0 a1 w1 a2_0 w2_0 a2_1 w2_1).mono fun e W' ⟨he, bel⟩ => ?_
  subst he
  exact ⟨_, rfl, _, _, _, [], _, [], hW', trodAll_mk1 (shut_bool Try.underlying4 _), (trodAll_cons_mk (Below.trod laidOut (by kernel_rfl) (of_decide_eq_true (by kernel_rfl)) k0 bel lt0) (trodAll_cons_mk (Below.trod laidOut (by kernel_rfl) (of_decide_eq_true (by kernel_rfl)) k1 bel lt1) (trodAll_cons_mk (Below.trod laidOut (by kernel_rfl) (of_decide_eq_true (by kernel_rfl)) k2 bel lt2) trodAll_mk0))), rfl, bel.frame _, fun h => by cases h⟩

theorem over : Rows.ramBytesRow.holds Try.pinned (OpenSpec.ofChange Rows.ramBytesSpec) :=
  OpenClaim.holds_of_wide 6 Try.f6 rfl rfl rfl rfl rfl rfl rfl ⟨rfl, rfl, rfl, rfl, rfl⟩ rfl rfl rfl rfl rfl (by kernel_rfl) Try.func6 (by kernel_rfl)
    (of_decide_eq_true (by kernel_rfl)) (by unfold Func.isWrapper; first | (rw [if_pos (by decide +kernel)]; kernel_rfl) | (rw [if_neg (by decide +kernel)]; exact ⟨rfl, rfl⟩))
    (fun os started H enc _ => lifted os started H enc)

/-- The statement. -/
theorem proved : Rows.RamBytesSaid := over
#print axioms proved

end Go.Proofs.Ytcikjjfmnogjhaa.ramBytes
