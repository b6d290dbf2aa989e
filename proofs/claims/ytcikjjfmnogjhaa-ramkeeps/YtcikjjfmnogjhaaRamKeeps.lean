/-
  Proved: for any number of pages, any address about the ends, any number and any bytes ahead, the law RamKeeps returns true: what was put is there, byte by byte, no other byte is other than it was, and numbers of more bytes are those of less side by side.
  Conditions: none beyond the statement's own.
-/
import Derived.Test.YtcikjjfmnogjhaaRows
import Derived.Test.YtcikjjfmnogjhaaOpen
import Derived.Lib.Hide
import Derived.Deep.QuietTactic
import Derived.BigQuiet
import Derived.IntWalk
import Derived.Test.YtcikjjfmnogjhaaRamLaw
import Derived.Test.YtcikjjfmnogjhaaRamW
namespace Go.Proofs.Ytcikjjfmnogjhaa.ramKeeps
open Go Go.ChangeShapes Go.WideShapes Go.ChangeAt Go.RowKit M
set_option linter.unusedVariables false

set_option maxRecDepth 100000 in
set_option maxHeartbeats 4000000 in
theorem walk (w : World) (a0 : Int) (w0 : (Lit.int .u8 a0).wf = true) (a1_0 : Int) (w1_0 : (Lit.int .u16 a1_0).wf = true) (a1_1 : Int) (w1_1 : (Lit.int .u64 a1_1).wf = true) (A2 : Option Addr) (m2 c2 : Nat) (z2 : List Int) (s2 : M.Shows w w.heap.size A2 m2 z2) (mc2 : m2 ≤ c2) (cc2 : c2 ≤ 9223372036854775807) :
    Calls Try.prog 4 #[.int .u8 a0, .agg #[.int .u16 a1_0, .int .u64 a1_1], .slice A2 m2 c2] w fun e w' => e = .returned (.bool true) ∧ Below w.heap.size w w' := by
  have h0 := bounds_u8 w0
  have hp := bounds_u16 w1_0
  have hq := bounds_u64 w1_1
  clear w0 w1_0 w1_1
  obtain ⟨m, hm⟩ : ∃ m, m = min m2 300 := ⟨_, rfl⟩
  have hS := s2.short (k := m) (by omega)
  have hadr : 0 < m2 → ∃ ad, A2 = some ad := fun h => by obtain ⟨ad, h, _⟩ := s2.2.2 h; exact ⟨ad, h⟩
  obtain ⟨zs, hz⟩ : ∃ zs, zs = z2.take m := ⟨_, rfl⟩
  rw [← hz] at hS
  have m300 : m ≤ 300 := by omega
  have HM := Lib.hid hm
  clear hz hm
  obtain ⟨q, hq1, hq4, hqe⟩ : ∃ q : Nat, 1 ≤ q ∧ q ≤ 16 ∧ (1 : Int) + a0 % 16 = q := ⟨(1 + a0 % 16).toNat, by omega, by omega, by omega⟩
  have hand := and_15 a0 h0
  have hand1 := and_1w a1_0 hp
  obtain ⟨L, hL⟩ : ∃ L : Nat, (q : Int) * 4096 = L := ⟨q * 4096, by omega⟩
  have hLq : q * 4096 = L := by omega
  have HLQ := Lib.hid hLq
  have hLb : 4096 ≤ L ∧ L ≤ 65536 := by omega
  clear hLq
  have HR0 := Lib.hid (Row.fresh w 50 [.int .u16 a1_0, .int .u64 a1_1])
  have hB0 : Below w.heap.size w (w.alloc (.cells #[.int .u16 a1_0, .int .u64 a1_1] 50)) := (Below.refl _ _).alloc (Nat.le_refl _) _
  go_enter Try.func4, Try.ntmps4
  go_wp2_with fail
  refine (shown02_c _).mono ?_
  rintro e wa ⟨rfl, hGa⟩
  have HRa := Lib.hid (HR0.out.grown hGa (by simp))
  have hBa := hB0.grown hGa (by simp) (by simp)
  have hsa := HRa.out.lt
  clear HR0 hB0 hGa
  have cx := HRa.out.cell 0
  have cy := HRa.out.cell 1
  simp only [List.getElem?_cons_zero, List.getElem?_cons_succ] at cx cy
  go_wp2_with fail
  refine (New_yes q (by omega) (by omega) _).mono ?_
  rintro e wb ⟨rfl, hA, hGb⟩
  have hBb := hBa.grown hGb hBa.size (by simp)
  have hsb := hA.ptr.lt
  obtain ⟨bs0, hbs0⟩ : ∃ l, l = List.replicate (q * 4096) (0 : Int) := ⟨_, rfl⟩
  rw [← hbs0] at hA
  have HL0 : Hid (bs0.length = L) := Lib.hid (by rw [hbs0, List.length_replicate, HLQ.out])
  clear hbs0 HRa hBa hGb cx cy
  go_wp2_with fail
  refine (short_c A2 m2 c2 m _ HM.out hadr mc2 cc2).mono ?_
  rintro e w' ⟨rfl, rfl⟩
  go_wp2_with fail
  refine (Load_c _ _ _ _ _ _ _ _ zs _ hA (hS.below hBb) (by omega) (by omega)).mono ?_
  rintro e wc ⟨rfl, hA2, hGc⟩
  have hBc := hBb.grown hGc hBb.size (by intro k hk; injection hk with hk; omega)
  have hsc := hGc.size
  obtain ⟨bs, hbs⟩ : ∃ l, l = loadV bs0 2147483648 zs := ⟨_, rfl⟩
  rw [← hbs] at hA2
  have HL : Hid (bs.length = L) := Lib.hid (by rw [hbs, loadV_length]; exact HL0.out)
  generalize hasB bs0.length 2147483648 (zs.length : Int) = F
  clear hbs hBb hGc hA HL0
  have HALL : Hid (∀ l : List Int, l.length = L → hasB l.length 2147483648 (L : Int) = true) := Lib.hid (fun l h => by rw [h]; exact has_all L)
  have HWH : Hid (∀ l : List Int, l.length = L → (l.drop (offV 2147483648)).take (L : Int).toNat = l) := Lib.hid (fun l h => by have := part_all l; rwa [h] at this)
  obtain ⟨T, hT, hTb⟩ : ∃ T : Int, (a1_0 % 2 = 1 ∧ 2147479552 + a1_0 % 8192 = T ∨ a1_0 % 2 = 0 ∧ 2147483648 + (L : Int) - 4096 + a1_0 % 8192 = T) ∧ 2147479552 ≤ T ∧ T ≤ 2147483648 + L + 4096 := by
    by_cases hpar : a1_0 % 2 = 1
    · exact ⟨_, .inl ⟨hpar, rfl⟩, by omega, by omega⟩
    · exact ⟨_, .inr ⟨by omega, rfl⟩, by omega, by omega⟩
  rcases hT with ⟨hpar, hT⟩ | ⟨hpar, hT⟩
  all_goals
    go_wp2_with fail
    refine (Bytes_yes _ _ bs _ _ _ hA2 (by omega) (HALL.out _ HL.out)).mono ?_
    rw [HWH.out _ HL.out]
    rintro e wd ⟨rfl, hRd, hGd⟩
    rw [HL.out]
    have hAd := hA2.kept hGd
    have hBd := hBc.grown hGd hBc.size (by simp)
    have hsd := hRd.lt
    clear hBc hGd hA2
    go_wp2_with fail
    refine (Put_c _ _ bs _ 8 _ _ hAd (by omega) (by omega) hq).mono ?_
    rintro e we ⟨rfl, hAe, hGe⟩
    have hRe := hRd.grown hGe (some_ne (by omega))
    have hBe := hBd.grown hGe hBd.size (by intro k hk; injection hk with hk; omega)
    have hse := hGe.size
    obtain ⟨cs, hcs⟩ : ∃ l, l = putV bs T 8 a1_1 := ⟨_, rfl⟩
    rw [← hcs] at hAe
    have HLC : Hid (cs.length = L) := Lib.hid (by rw [hcs, putV_length]; exact HL.out)
    have HCS := Lib.hid hcs
    rw [HL.out]
    have hb1 := hAd.byt
    clear hcs hRd hAd hBd hGe hpar hT
    go_wp2_with fail
    refine (Bytes_yes _ _ cs _ _ _ hAe (by omega) (HALL.out _ HLC.out)).mono ?_
    rw [HWH.out _ HLC.out]
    rintro e wf ⟨rfl, hRf, hGf⟩
    rw [HLC.out]
    have hAf := hAe.kept hGf
    have hQf := hRe.grown hGf (by simp)
    have hBf := hBe.grown hGf hBe.size (by simp)
    have hsf := hRf.lt
    clear hRe hAe hBe hGf
    have HG1 : Hid (∀ k, k < L → wf.cell? ⟨wc.heap.size, k, none⟩ = some (.int .u8 (bs.getD k 0))) := Lib.hid (fun k hk => by
      rw [hQf.cell, vals_get, List.getElem?_eq_getElem (by rw [HL.out]; exact hk)]; simp [List.getD, List.getElem?_eq_getElem (show k < bs.length by rw [HL.out]; exact hk)])
    have HG2 : Hid (∀ k, k < L → wf.cell? ⟨we.heap.size, k, none⟩ = some (.int .u8 (cs.getD k 0))) := Lib.hid (fun k hk => by
      rw [hRf.cell, vals_get, List.getElem?_eq_getElem (by rw [HLC.out]; exact hk)]; simp [List.getD, List.getElem?_eq_getElem (show k < cs.length by rw [HLC.out]; exact hk)])
    clear hQf hRf
    by_cases hth : 2147483648 ≤ T ∧ T + 8 ≤ 2147483648 + L
    · obtain ⟨f, rfl⟩ : ∃ f : Nat, T = 2147483648 + f := ⟨(T - 2147483648).toNat, by omega⟩
      have hfL : f + 8 ≤ L := by omega
      have HOK : Hid (okB L (2147483648 + (f : Int)) 8 = true) := Lib.hid (ok_add _ _ _ (by decide) (by omega))
      have HHA : Hid (hasB L (2147483648 + (f : Int)) 8 = true) := Lib.hid (ok_of HOK.out).2
      have HSP : Hid (cs = splice bs f (toB 8 a1_1)) := Lib.hid (by rw [HCS.out]; exact put8 _ _ _ (by rw [HL.out]; exact hfL))
      rw [HOK.out]
      go_wp2_with fail
      refine (Has_c _ _ cs _ 8 _ hAf (by omega) (by omega)).mono ?_
      rintro e w' ⟨rfl, rfl⟩
      rw [HLC.out, HHA.out]
      go_wp2_with fail
      go_loopw [21] (fun i wr => ∃ (k d : Nat), k ≤ L ∧ i = .int .i64 k ∧ wr = wf.drewN d) (fun i _ => L - (intOf i).toNat)
      case atStart => exact ⟨0, 0, by omega, rfl, rfl⟩
      case round =>
        obtain ⟨k, d, hk, rfl, rfl⟩ := hrel
        by_cases hlt : k < L
        · have hc1 := HG1.out k hlt
          have hc2 := HG2.out k hlt
          by_cases hin : f ≤ k ∧ k < f + 8
          · obtain ⟨r, hr⟩ : ∃ r : Nat, k = f + r := ⟨k - f, by omega⟩
            have hr8 : r < 8 := by omega
            have hD : (2147483648 : Int) + k - (2147483648 + f) = r := by omega
            have hcv : cs.getD k 0 = a1_1 / 2 ^ (8 * r) % 256 := by
              rw [HSP.out, List.getD, splice_get _ _ _ (by rw [toB_length, HL.out]; exact hfL), if_pos (by rw [toB_length]; exact hin), show k - f = r from by omega, toB_get _ _ _ hr8, pow_8]; rfl
            rw [hcv] at hc2
            clear hr hcv
            go_wp2_with fail
            go_roundw
            case rel => exact ⟨k + 1, d, by omega, by go_num, rfl⟩
            case measure => simp [intOf]; omega
          · have hcv : cs.getD k 0 = bs.getD k 0 := by
              rw [HSP.out, List.getD, splice_get _ _ _ (by rw [toB_length, HL.out]; exact hfL), if_neg (by rw [toB_length]; exact hin)]; rfl
            rw [hcv] at hc2
            obtain ⟨b, hb⟩ : ∃ b, b = bs.getD k 0 := ⟨_, rfl⟩
            rw [← hb] at hc1 hc2
            obtain ⟨D, hD⟩ : ∃ D, IntKind.u64.wrap (2147483648 + (k : Int) - (2147483648 + f)) = D := ⟨_, rfl⟩
            have hDb : decide (D < 8) = false := decide_eq_false (by rw [← hD, IntKind.wrap_u64]; omega)
            have hD2 : decide ((2147483648 : Int) + k - (2147483648 + f) < 8) = decide (k < f) := by rw [decide_eq_decide]; omega
            have hDc : ¬ D < 8 := of_decide_eq_false hDb
            clear hcv hb
            go_wp2_with fail
            go_quiet (fail)
            go_wp2_with fail
            go_roundw
            case rel => exact ⟨k + 1, _, by omega, by go_num, rfl⟩
            case measure => simp [intOf]; omega
        · obtain rfl : k = L := by omega
          have hgt := get4 bs f a1_1 (by rw [HL.out]; exact hfL) hq
          rw [← HSP.out] at hgt
          obtain ⟨lo, hlo⟩ : ∃ lo, lo = a1_1 % 4294967296 := ⟨_, rfl⟩
          obtain ⟨hi, hhi⟩ : ∃ hi, hi = a1_1 / 4294967296 := ⟨_, rfl⟩
          rw [← hlo, ← hhi] at hgt
          have hlb : 0 ≤ lo ∧ lo ≤ 4294967295 := by omega
          have hhb : 0 ≤ hi ∧ hi ≤ 4294967295 := by omega
          have hsum : lo + hi * 4294967296 = a1_1 := by omega
          have hg8 : getV cs (2147483648 + (f : Int)) 8 = a1_1 := by rw [HCS.out]; exact getput8 _ _ _ (by rw [HL.out]; exact HOK.out) hq
          have ho4 : okB cs.length (2147483648 + (f : Int)) 4 = true := ok_add _ _ _ (by decide) (by rw [HLC.out]; omega)
          have ho8 : okB cs.length (2147483648 + (f : Int)) 8 = true := ok_add _ _ _ (by decide) (by rw [HLC.out]; omega)
          have ho4' : okB cs.length (2147483648 + (f : Int) + 4) 4 = true := by
            have := ok_add cs.length (f + 4) 4 (by decide) (by rw [HLC.out]; omega)
            rwa [show (2147483648 : Int) + ((f + 4 : Nat) : Int) = 2147483648 + (f : Int) + 4 from by omega] at this
          have HGT := Lib.hid hgt
          have HG8 := Lib.hid hg8
          have HO4 := Lib.hid ho4
          have HO8 := Lib.hid ho8
          have HO4' := Lib.hid ho4'
          have hAr := hAf.drewN d
          clear hlo hhi hgt hg8 ho4 ho8 ho4'
          go_wp2_with fail
          refine (Get_c _ _ _ _ 4 _ hAr (by omega) (by omega)).mono ?_
          rintro e w' ⟨rfl, rfl⟩
          rw [HO4.out, HGT.out.1]
          go_wp2_with fail
          refine (Get_c _ _ _ _ 4 _ hAr (by omega) (by omega)).mono ?_
          rintro e w' ⟨rfl, rfl⟩
          rw [HO4'.out, HGT.out.2]
          go_wp2_with fail
          refine (Get_c _ _ _ _ 8 _ hAr (by omega) (by omega)).mono ?_
          rintro e w' ⟨rfl, rfl⟩
          rw [HO8.out, HG8.out]
          go_wp2_with fail
          go_ret
          exact ⟨rfl, below_drewN hBf _⟩
    · have HOK : Hid (okB L T 8 = false) := Lib.hid (by
        cases h : okB L T 8
        · rfl
        · exact absurd (has_of (ok_of h).2) (by omega))
      have HHA : Hid (hasB L T 8 = false) := Lib.hid (by simp only [hasB, decide_eq_false_iff_not]; omega)
      have HSP : Hid (cs = bs) := Lib.hid (by rw [HCS.out, putV, HL.out, if_neg (by rw [HOK.out]; simp)])
      rw [HOK.out]
      obtain ⟨P1, hP1⟩ : ∃ P1, decide (2147483648 ≤ T) = P1 := ⟨_, rfl⟩
      obtain ⟨P2, hP2⟩ : ∃ P2, decide (T + 8 ≤ 2147483648 + (L : Int)) = P2 := ⟨_, rfl⟩
      have hPP : P1 = false ∨ P1 = true ∧ P2 = false := by
        rw [← hP1, ← hP2]
        by_cases h1 : 2147483648 ≤ T
        · exact .inr ⟨decide_eq_true h1, decide_eq_false (by omega)⟩
        · exact .inl (decide_eq_false h1)
      rcases hPP with rfl | ⟨rfl, rfl⟩
      all_goals
        go_wp2_with fail
        refine (Has_c _ _ cs _ 8 _ hAf (by omega) (by omega)).mono ?_
        rintro e w' ⟨rfl, rfl⟩
        rw [HLC.out, HHA.out]
        go_wp2_with fail
        go_loopw [21] (fun i wr => ∃ (k d : Nat), k ≤ L ∧ i = .int .i64 k ∧ wr = wf.drewN d) (fun i _ => L - (intOf i).toNat)
        case atStart => exact ⟨0, 0, by omega, rfl, rfl⟩
        case round =>
          obtain ⟨k, d, hk, rfl, rfl⟩ := hrel
          by_cases hlt : k < L
          · have hc1 := HG1.out k hlt
            have hc2 := HG2.out k hlt
            rw [HSP.out] at hc2
            obtain ⟨b, hb⟩ : ∃ b, b = bs.getD k 0 := ⟨_, rfl⟩
            rw [← hb] at hc1 hc2
            clear hb
            go_wp2_with fail
            go_quiet (fail)
            go_wp2_with fail
            go_roundw
            case rel => exact ⟨k + 1, _, by omega, by go_num, rfl⟩
            case measure => simp [intOf]; omega
          · obtain rfl : k = L := by omega
            have hAr := hAf.drewN d
            go_wp2_with fail
            refine (Get_c _ _ _ _ 8 _ hAr (by omega) (by omega)).mono ?_
            rintro e w' ⟨rfl, rfl⟩
            rw [HLC.out, HOK.out]
            go_wp2_with fail
            go_ret
            exact ⟨rfl, below_drewN hBf _⟩

theorem own : ownKnob Try.prog.godebug = none := by kernel_rfl
theorem laidOut : laidOutB Try.prog = true := by kernel_rfl

set_option maxRecDepth 100000 in
theorem lifted (os : Os) (started : os.Started) (H : Type) (enc : TypeId × Value → H) :
    ReturnsInHanded {} Try.checked os 4 .any (Rows.ramKeepsSpec.pre6 enc Try.prog Try.f4 Rows.ramKeepsRow.domain false) (Rows.ramKeepsSpec.post enc Try.prog Try.f4 false true false false) := by
  refine returnsInHanded_of_change (C := Try.checked) own started (by kernel_rfl) Try.func4
    (ChangeSpec.witness6 (enc := enc) (C := Try.checked) false ⟨#[], #[.int .u8 0, .agg #[.int .u16 0, .int .u64 0], .slice none 0 0], []⟩ 8 (by kernel_rfl) (by kernel_rfl) (by kernel_rfl) (by kernel_rfl)) ?_
  intro W base args ds gs before hval0 hW hcnd _
  have hval : ∀ (j : Nat) t v, Try.f4.params[j]? = some t → args[j]? = some v → Value.okWide Try.prog W .any base t v := hval0
  have hW' := hW
  obtain ⟨p, q, hA0, hV, rfl, hfz, hnd⟩ := hW
  have hA : DataW.TrodAll enc Try.prog W 0 (fun _ => true) true Try.f4.params.toList args.toList ds p := hA0
  rw [Try.params4] at hA hval
  obtain ⟨v0, vs0, d0, ds0, p0, q0, hargs, rfl, rfl, h0, r0⟩ := trodAll_cons hA
  obtain ⟨v1, vs1, d1, ds1, p1, q1, rfl, rfl, rfl, h1, r1⟩ := trodAll_cons r0
  obtain ⟨v2, vs2, d2, ds2, p2, q2, rfl, rfl, rfl, h2, r2⟩ := trodAll_cons r1
  obtain ⟨rfl, rfl, rfl⟩ := trodAll_nil r2
  obtain rfl : args = #[v0, v1, v2] := by cases args; simp_all
  obtain ⟨rfl, rfl⟩ := trodVars_none hV
  clear hA0 hval0 hA
  have k0 := h0
  have lt0 : ∀ x ∈ p0, x.block < W.heap.size := by obtain ⟨m, hm⟩ := k0; exact DataW.trod_lt m _ _ _ hm
  obtain ⟨a0, rfl, rfl, rfl, w0⟩ := open_int Try.underlying5 (hval 0 5 v0 rfl rfl) h0
  have k1 := h1
  have lt1 : ∀ x ∈ p1, x.block < W.heap.size := by obtain ⟨m, hm⟩ := k1; exact DataW.trod_lt m _ _ _ hm
  obtain ⟨xs1, rfl, l1, m1, f1⟩ := Op.open_struct Try.underlying50 (hval 1 50 v1 rfl rfl) h1
  rw [show Try.prog.cellsOf 50 = 2 from by kernel_rfl] at l1
  obtain _ | ⟨c1_0, xs1⟩ := xs1
  · simp at l1
  obtain _ | ⟨c1_1, xs1⟩ := xs1
  · simp at l1
  obtain _ | ⟨_, _⟩ := xs1
  rotate_left
  · simp at l1
  clear h1
  obtain ⟨y1_0, g1_0⟩ := f1 0 _ rfl
  replace g1_0 : DataW.trod enc Try.prog W 0 (fun _ => true) true m1 48 [c1_0] = some y1_0 := g1_0
  obtain ⟨a1_0, e1_0, _, w1_0⟩ := DataW.trod_int Try.underlying48 g1_0
  simp at e1_0; subst e1_0
  obtain ⟨y1_1, g1_1⟩ := f1 1 _ rfl
  replace g1_1 : DataW.trod enc Try.prog W 0 (fun _ => true) true m1 31 [c1_1] = some y1_1 := g1_1
  obtain ⟨a1_1, e1_1, _, w1_1⟩ := DataW.trod_int Try.underlying31 g1_1
  simp at e1_1; subst e1_1
  have k2 := h2
  have lt2 : ∀ x ∈ p2, x.block < W.heap.size := by obtain ⟨m, hm⟩ := k2; exact DataW.trod_lt m _ _ _ hm
  obtain ⟨A2, m2, c2, z2, rfl, s2, mc2, cc2⟩ := M.open_bytes Try.underlying32 Try.underlying5 (by kernel_rfl) (hval 2 32 v2 rfl rfl) h2
  refine (walk W a0 w0 a1_0 w1_0 a1_1 w1_1 A2 m2 c2 z2 s2 mc2 cc2).mono fun e W' ⟨he, bel⟩ => ?_
  subst he
  exact ⟨_, rfl, _, _, _, [], _, [], hW', trodAll_mk1 (shut_bool Try.underlying4 _), (trodAll_cons_mk (Below.trod laidOut (by kernel_rfl) (of_decide_eq_true (by kernel_rfl)) k0 bel lt0) (trodAll_cons_mk (Below.trod laidOut (by kernel_rfl) (of_decide_eq_true (by kernel_rfl)) k1 bel lt1) (trodAll_cons_mk (Below.trod laidOut (by kernel_rfl) (of_decide_eq_true (by kernel_rfl)) k2 bel lt2) trodAll_mk0))), rfl, bel.frame _, fun h => by cases h⟩

theorem over : Rows.ramKeepsRow.holds Try.pinned (OpenSpec.ofChange Rows.ramKeepsSpec) :=
  OpenClaim.holds_of_wide 4 Try.f4 rfl rfl rfl rfl rfl rfl rfl ⟨rfl, rfl, rfl, rfl, rfl⟩ rfl rfl rfl rfl rfl (by kernel_rfl) Try.func4 (by kernel_rfl)
    (of_decide_eq_true (by kernel_rfl)) (by unfold Func.isWrapper; first | (rw [if_pos (by decide +kernel)]; kernel_rfl) | (rw [if_neg (by decide +kernel)]; exact ⟨rfl, rfl⟩))
    (fun os started H enc _ => lifted os started H enc)

/-- The statement. -/
theorem proved : Rows.RamKeepsSaid := over
#print axioms proved

end Go.Proofs.Ytcikjjfmnogjhaa.ramKeeps
