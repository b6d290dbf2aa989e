/-
  Proved: for any number of pages, any bytes, any place and number, the law RamClones returns true: a clone has the same bytes, what is done to one is not done to the other, and what is told is its own.
  Conditions: none beyond the statement's own.
-/
import Derived.Test.YtcikjjfmnogjhaaRows
import Derived.Test.YtcikjjfmnogjhaaOpen
import Derived.Lib.Hide
import Derived.Deep.QuietTactic
import Derived.BigQuiet
import Derived.IntWalk
import Derived.Test.YtcikjjfmnogjhaaRamLaw
import Derived.Test.YtcikjjfmnogjhaaRamW
namespace Go.Proofs.Ytcikjjfmnogjhaa.ramClones
open Go Go.ChangeShapes Go.WideShapes Go.ChangeAt Go.RowKit M
set_option linter.unusedVariables false

set_option maxRecDepth 100000 in
set_option maxHeartbeats 2000000 in
theorem walk (w : World) (a0 : Int) (w0 : (Lit.int .u8 a0).wf = true) (A1 : Option Addr) (m1 c1 : Nat) (z1 : List Int) (s1 : M.Shows w w.heap.size A1 m1 z1) (mc1 : m1 ≤ c1) (cc1 : c1 ≤ 9223372036854775807) (a2_0 : Int) (w2_0 : (Lit.int .u16 a2_0).wf = true) (a2_1 : Int) (w2_1 : (Lit.int .u64 a2_1).wf = true) :
    Calls Try.prog 5 #[.int .u8 a0, .slice A1 m1 c1, .agg #[.int .u16 a2_0, .int .u64 a2_1]] w fun e w' => e = .returned (.bool true) ∧ Below w.heap.size w w' := by
  have h0 := bounds_u8 w0
  have hp := bounds_u16 w2_0
  have hq := bounds_u64 w2_1
  clear w0 w2_0 w2_1
  obtain ⟨m, hm⟩ : ∃ m, m = min m1 300 := ⟨_, rfl⟩
  have hS := s1.short (k := m) (by omega)
  have hadr : 0 < m1 → ∃ ad, A1 = some ad := fun h => by obtain ⟨ad, h, _⟩ := s1.2.2 h; exact ⟨ad, h⟩
  obtain ⟨zs, hz⟩ : ∃ zs, zs = z1.take m := ⟨_, rfl⟩
  rw [← hz] at hS
  have m300 : m ≤ 300 := by omega
  have HM := Lib.hid hm
  clear hz hm
  obtain ⟨q, hq1, hq4, hqe⟩ : ∃ q : Nat, 1 ≤ q ∧ q ≤ 4 ∧ (1 : Int) + a0 % 4 = q := ⟨(1 + a0 % 4).toNat, by omega, by omega, by omega⟩
  have hand := and_3 a0 h0
  obtain ⟨L, hL⟩ : ∃ L : Nat, (q : Int) * 4096 = L := ⟨q * 4096, by omega⟩
  have hLq : q * 4096 = L := by omega
  have HLQ := Lib.hid hLq
  have hLb : 4096 ≤ L ∧ L ≤ 16384 := by omega
  have HLd : Hid ((L : Int) / 4096 = q) := Lib.hid (by omega)
  clear hLq
  obtain ⟨t, ht⟩ : ∃ t : Nat, a2_0 % 4089 = t := ⟨(a2_0 % 4089).toNat, by omega⟩
  have htb : t ≤ 4088 := by omega
  obtain ⟨y, hy⟩ : ∃ y, bits .xor .u64 IntKind.u64.max a2_1 = y := ⟨_, rfl⟩
  have hyb : 0 ≤ y ∧ y ≤ 18446744073709551615 := by rw [← hy, not_u64 _ hq]; omega
  have HR0 := Lib.hid (Row.fresh w 50 [.int .u16 a2_0, .int .u64 a2_1])
  have hB0 : Below w.heap.size w (w.alloc (.cells #[.int .u16 a2_0, .int .u64 a2_1] 50)) := (Below.refl _ _).alloc (Nat.le_refl _) _
  go_enter Try.func5, Try.ntmps5
  go_wp2_with fail
  refine (shown02_c _).mono ?_
  rintro e wa ⟨rfl, hGa⟩
  have HRa := Lib.hid (HR0.out.grown hGa (by simp))
  have hBa := hB0.grown hGa (by simp) (by simp)
  have hsa := HRa.out.lt
  clear HR0 hB0 hGa
  go_wp2_with fail
  refine (New_yes q (by omega) (by omega) _).mono ?_
  rintro e wb ⟨rfl, hA, hGb⟩
  have HRb := Lib.hid (HRa.out.grown hGb (by simp))
  have hBb := hBa.grown hGb hBa.size (by simp)
  have hsb := hA.ptr.lt
  obtain ⟨bs0, hbs0⟩ : ∃ l, l = List.replicate (q * 4096) (0 : Int) := ⟨_, rfl⟩
  rw [← hbs0] at hA
  have HL0 : Hid (bs0.length = L) := Lib.hid (by rw [hbs0, List.length_replicate, HLQ.out])
  clear hbs0 HRa hBa hGb
  go_wp2_with fail
  refine (short_c A1 m1 c1 m _ HM.out hadr mc1 cc1).mono ?_
  rintro e w' ⟨rfl, rfl⟩
  go_wp2_with fail
  refine (Load_c _ _ _ _ _ _ _ _ zs _ hA (hS.below hBb) (by omega) (by omega)).mono ?_
  rintro e wc ⟨rfl, hA2, hGc⟩
  have HRc := Lib.hid (HRb.out.grown hGc (some_ne (by omega)))
  have hBc := hBb.grown hGc hBb.size (by intro k hk; injection hk with hk; omega)
  have hsc := hGc.size
  obtain ⟨bs, hbs⟩ : ∃ l, l = loadV bs0 2147483648 zs := ⟨_, rfl⟩
  rw [← hbs] at hA2
  have HL : Hid (bs.length = L) := Lib.hid (by rw [hbs, loadV_length]; exact HL0.out)
  generalize hasB bs0.length 2147483648 (zs.length : Int) = F
  clear hbs HRb hBb hGc hA HL0
  have HALL : Hid (hasB bs.length 2147483648 (L : Int) = true) := Lib.hid (by rw [HL.out]; exact has_all L)
  have HWH : Hid ((bs.drop (offV 2147483648)).take (L : Int).toNat = bs) := Lib.hid (by have := part_all bs; rwa [HL.out] at this)
  go_wp2_with fail
  refine (Bytes_yes _ _ bs _ _ _ hA2 (by omega) HALL.out).mono ?_
  rw [HWH.out]
  rintro e wd ⟨rfl, hRd, hGd⟩
  rw [HL.out]
  have hAd := hA2.kept hGd
  have HRd := Lib.hid (HRc.out.grown hGd (by simp))
  have hBd := hBc.grown hGd hBc.size (by simp)
  have hsd := hRd.lt
  clear HRc hBc hGd hA2
  go_wp2_with fail
  refine (Clone_c _ _ bs _ hAd).mono ?_
  rintro e we ⟨rfl, hC, hGe⟩
  have hAe := hAd.kept hGe
  have HRe := Lib.hid (HRd.out.grown hGe (by simp))
  have hRe := hRd.grown hGe (by simp)
  have hBe := hBd.grown hGe hBd.size (by simp)
  have hse := hC.ptr.lt
  clear HRd hBd hGe hAd hRd
  go_wp2_with fail
  refine (Pages_c _ _ bs _ hC).mono ?_
  rintro e w' ⟨rfl, rfl⟩
  rw [HL.out, HLd.out]
  have cx := HRe.out.cell 0
  have cy := HRe.out.cell 1
  simp only [List.getElem?_cons_zero, List.getElem?_cons_succ] at cx cy
  go_wp2_with fail
  have HOK : Hid (okB bs.length (2147483648 + (t : Int)) 8 = true) := Lib.hid (ok_add _ _ _ (by decide) (by rw [HL.out]; omega))
  refine (Put_c _ _ bs _ 8 _ _ hC (by omega) (by omega) hq).mono ?_
  rw [HOK.out]
  rintro e wf ⟨rfl, hC2, hGf⟩
  have hAf := hAe.grown hGf (some_ne (by omega)) (some_ne (by omega))
  have HRf := Lib.hid (HRe.out.grown hGf (some_ne (by omega)))
  have hRf := hRe.grown hGf (some_ne (by omega))
  have hBf := hBe.grown hGf hBe.size (by intro k hk; injection hk with hk; omega)
  have hsf := hGf.size
  clear HRe hBe hGf hAe hRe hC cx cy
  go_wp2_with fail
  refine (Bytes_yes _ _ bs _ _ _ hAf (by omega) HALL.out).mono ?_
  rw [HWH.out]
  rintro e wg ⟨rfl, hOg, hGg⟩
  rw [HL.out]
  have hAg := hAf.kept hGg
  have hCg := hC2.kept hGg
  have HRg := Lib.hid (HRf.out.grown hGg (by simp))
  have hRg := hRf.grown hGg (by simp)
  have hBg := hBf.grown hGg hBf.size (by simp)
  have hsg := hOg.lt
  clear HRf hBf hGg hAf hC2 hRf
  have cx := HRg.out.cell 0
  have cy := HRg.out.cell 1
  simp only [List.getElem?_cons_zero, List.getElem?_cons_succ] at cx cy
  go_wp2_with fail
  refine (Put_c _ _ bs _ 8 _ _ hAg (by omega) (by omega) hyb).mono ?_
  rw [HOK.out]
  rintro e wh ⟨rfl, hAh, hGh⟩
  have hCh := hCg.grown hGh (some_ne (by omega)) (some_ne (by omega))
  have HRh := Lib.hid (HRg.out.grown hGh (some_ne (by omega)))
  have hRh := hRg.grown hGh (some_ne (by omega))
  have hOh := hOg.grown hGh (some_ne (by omega))
  have hBh := hBg.grown hGh hBg.size (by intro k hk; injection hk with hk; omega)
  have hsh := hGh.size
  have hbyt := hAg.byt
  clear HRg hBg hGh hAg hRg hCg hOg cx cy
  go_wp2_with fail
  refine (Get_c _ _ _ _ 8 _ hCh (by omega) (by omega)).mono ?_
  rintro e w' ⟨rfl, rfl⟩
  rw [getput8 _ _ _ HOK.out hq]
  generalize okB (putV bs (2147483648 + (t : Int)) 8 a2_1).length (2147483648 + (t : Int)) 8 = F2
  have hT1 : (convert 32 9 (.slice (some ⟨wc.heap.size, 0, none⟩) L L)).run Try.prog wh = .ok (.string (strOfNums bs)) wh := by
    have := (hRh.shows hbyt).text (P := Try.prog) 32 5 9 L Try.underlying32 Try.underlying5 Try.underlying9
    rwa [HL.out] at this
  go_wp2_with fail
  clear hT1
  go_loopw [20] (fun i wr => ∃ (k : Nat) (l : List Value), k ≤ L ∧ l.length = L ∧ i = .int .i64 k ∧ Row wr wc.heap.size 5 l ∧ wh.grownBy wr (some wc.heap.size)) (fun i _ => L - (intOf i).toNat)
  case atStart => exact ⟨0, vals bs, by omega, by rw [vals_length]; exact HL.out, rfl, hRh, gr_refl _ _⟩
  case round =>
    obtain ⟨k, l, hk, hl, rfl, hR, hG⟩ := hrel
    by_cases hlt : k < L
    · obtain ⟨u, hu⟩ : ∃ u, l[k]? = some u := ⟨_, List.getElem?_eq_getElem (by omega)⟩
      have hcell := (hR.cell k).trans hu
      have hfree := hR.free k
      have HNL := Lib.hid hl
      clear hl hu
      go_wp2
      go_roundw
      case rel => exact ⟨k + 1, _, by omega, by rw [List.length_set]; exact HNL.out, by go_num, hR.put k _, gr_set hG _⟩
      case measure => simp [intOf]; omega
    · obtain rfl : k = L := by omega
      have hAr := hAh.grown hG (some_ne (by omega)) (some_ne (by omega))
      have hOr := hOh.grown hG (some_ne (by omega))
      have HRr := HRh.out.grown hG (some_ne (by omega))
      have hBr := hBh.grown hG hBh.size (by intro k hk; injection hk with hk; omega)
      have cx := HRr.cell 0
      have cy := HRr.cell 1
      simp only [List.getElem?_cons_zero, List.getElem?_cons_succ] at cx cy
      have hT1 : (convert 32 9 (.slice (some ⟨wf.heap.size, 0, none⟩) k k)).run Try.prog wr = .ok (.string (strOfNums bs)) wr := by
        have := (hOr.shows hbyt).text (P := Try.prog) 32 5 9 k Try.underlying32 Try.underlying5 Try.underlying9
        rwa [HL.out] at this
      clear hl hR hG hAh hOh HRh hBh
      go_wp2_with fail
      refine (Get_c _ _ _ _ 8 _ hAr (by omega) (by omega)).mono ?_
      rintro e w' ⟨rfl, rfl⟩
      rw [getput8 _ _ _ HOK.out hyb]
      go_wp2_with fail
      go_ret
      exact ⟨rfl, hBr⟩

theorem own : ownKnob Try.prog.godebug = none := by kernel_rfl
theorem laidOut : laidOutB Try.prog = true := by kernel_rfl

set_option maxRecDepth 100000 in
theorem lifted (os : Os) (started : os.Started) (H : Type) (enc : TypeId × Value → H) :
    ReturnsInHanded {} Try.checked os 5 .any (Rows.ramClonesSpec.pre6 enc Try.prog Try.f5 Rows.ramClonesRow.domain false) (Rows.ramClonesSpec.post enc Try.prog Try.f5 false true false false) := by
  refine returnsInHanded_of_change (C := Try.checked) own started (by kernel_rfl) Try.func5
    (ChangeSpec.witness6 (enc := enc) (C := Try.checked) false ⟨#[], #[.int .u8 0, .slice none 0 0, .agg #[.int .u16 0, .int .u64 0]], []⟩ 8 (by kernel_rfl) (by kernel_rfl) (by kernel_rfl) (by kernel_rfl)) ?_
  intro W base args ds gs before hval0 hW hcnd _
  have hval : ∀ (j : Nat) t v, Try.f5.params[j]? = some t → args[j]? = some v → Value.okWide Try.prog W .any base t v := hval0
  have hW' := hW
  obtain ⟨p, q, hA0, hV, rfl, hfz, hnd⟩ := hW
  have hA : DataW.TrodAll enc Try.prog W 0 (fun _ => true) true Try.f5.params.toList args.toList ds p := hA0
  rw [Try.params5] at hA hval
  obtain ⟨v0, vs0, d0, ds0, p0, q0, hargs, rfl, rfl, h0, r0⟩ := trodAll_cons hA
  obtain ⟨v1, vs1, d1, ds1, p1, q1, rfl, rfl, rfl, h1, r1⟩ := trodAll_cons r0
  obtain ⟨v2, vs2, d2, ds2, p2, q2, rfl, rfl, rfl, h2, r2⟩ := trodAll_cons r1
  obtain ⟨rfl, rfl, rfl⟩ := trodAll_nil r2
  obtain rfl : args = #[v0, v1, v2] := by cases args; simp_all
  obtain ⟨rfl, rfl⟩ := trodVars_none hV
  clear hA0 hval0 hA
  have k0 := h0
  have lt0 : ∀ x ∈ p0, x.block < W.heap.size := by obtain ⟨m, hm⟩ := k0; exact DataW.trod_lt m _ _ _ hm
  obtain ⟨a0, rfl, rfl, rfl, w0⟩ := open_int Try.underlying5 (hval 0 5 v0 rfl rfl) h0
  have k1 := h1
  have lt1 : ∀ x ∈ p1, x.block < W.heap.size := by obtain ⟨m, hm⟩ := k1; exact DataW.trod_lt m _ _ _ hm
  obtain ⟨A1, m1, c1, z1, rfl, s1, mc1, cc1⟩ := M.open_bytes Try.underlying32 Try.underlying5 (by kernel_rfl) (hval 1 32 v1 rfl rfl) h1
  have k2 := h2
  have lt2 : ∀ x ∈ p2, x.block < W.heap.size := by obtain ⟨m, hm⟩ := k2; exact DataW.trod_lt m _ _ _ hm
  obtain ⟨xs2, rfl, l2, m2, f2⟩ := Op.open_struct Try.underlying50 (hval 2 50 v2 rfl rfl) h2
  rw [show Try.prog.cellsOf 50 = 2 from by kernel_rfl] at l2
  obtain _ | ⟨c2_0, xs2⟩ := xs2
  · simp at l2
  obtain _ | ⟨c2_1, xs2⟩ := xs2
  · simp at l2
  obtain _ | ⟨_, _⟩ := xs2
  rotate_left
  · simp at l2
  clear h2
  obtain ⟨y2_0, g2_0⟩ := f2 0 _ rfl
  replace g2_0 : DataW.trod enc Try.prog W 0 (fun _ => true) true m2 48 [c2_0] = some y2_0 := g2_0
  obtain ⟨a2_0, e2_0, _, w2_0⟩ := DataW.trod_int Try.underlying48 g2_0
  simp at e2_0; subst e2_0
  obtain ⟨y2_1, g2_1⟩ := f2 1 _ rfl
  replace g2_1 : DataW.trod enc Try.prog W 0 (fun _ => true) true m2 31 [c2_1] = some y2_1 := g2_1
  obtain ⟨a2_1, e2_1, _, w2_1⟩ := DataW.trod_int Try.underlying31 g2_1
  simp at e2_1; subst e2_1
  refine (walk W a0 w0 A1 m1 c1 z1 s1 mc1 cc1 a2_0 w2_0 a2_1 w2_1).mono fun e W' ⟨he, bel⟩ => ?_
  subst he
  exact ⟨_, rfl, _, _, _, [], _, [], hW', trodAll_mk1 (shut_bool Try.underlying4 _), (trodAll_cons_mk (Below.trod laidOut (by kernel_rfl) (of_decide_eq_true (by kernel_rfl)) k0 bel lt0) (trodAll_cons_mk (Below.trod laidOut (by kernel_rfl) (of_decide_eq_true (by kernel_rfl)) k1 bel lt1) (trodAll_cons_mk (Below.trod laidOut (by kernel_rfl) (of_decide_eq_true (by kernel_rfl)) k2 bel lt2) trodAll_mk0))), rfl, bel.frame _, fun h => by cases h⟩

theorem over : Rows.ramClonesRow.holds Try.pinned (OpenSpec.ofChange Rows.ramClonesSpec) :=
  OpenClaim.holds_of_wide 5 Try.f5 rfl rfl rfl rfl rfl rfl rfl ⟨rfl, rfl, rfl, rfl, rfl⟩ rfl rfl rfl rfl rfl (by kernel_rfl) Try.func5 (by kernel_rfl)
    (of_decide_eq_true (by kernel_rfl)) (by unfold Func.isWrapper; first | (rw [if_pos (by decide +kernel)]; kernel_rfl) | (rw [if_neg (by decide +kernel)]; exact ⟨rfl, rfl⟩))
    (fun os started H enc _ => lifted os started H enc)

/-- The statement. -/
theorem proved : Rows.RamClonesSaid := over
#print axioms proved

end Go.Proofs.Ytcikjjfmnogjhaa.ramClones
