/-
  Contracts of package base, on: Exts, Name; the document's own Exts, Known, Call, Name.
  Conditions: the arguments are numbers of their kinds; for Name: the table of names holds what the program's text lays.
-/
import Derived.Test.YtajamfnadnonoaaDoorBaseC
namespace Go.Proofs.YtajamfnadnonoaaDoor
open Go Go.RowKit M Bs
set_option linter.unusedVariables false
set_option linter.unusedSimpArgs false

/-- The table of names holds what the program's text lays. -/
def Nms (w : World) : Prop := ∀ i, i < 9 → w.cell? ⟨0, i, none⟩ = some (.string ⟨(namL.getD i []).toArray⟩)
theorem Nms.turn {w w' : World} (h : Nms w) (hk : ∀ i, i < 9 → w'.cell? ⟨0, i, none⟩ = w.cell? ⟨0, i, none⟩) : Nms w' := fun i hi => (hk i hi).trans (h i hi)
theorem Exts_c (w : World) : Calls Tryd.prog 8 #[] w fun e w' => ∃ q, e = .returned (.slice (some ⟨q, 0, none⟩) 8 8) ∧ Row w' q 34 allL ∧ w.grownBy w' none := by
  go_enter Tryd.func8, Tryd.ntmps8
  go_wp2_with fail
  refine (all_c w).mono ?_
  rintro e w1 ⟨rfl, hg⟩
  have HR := Lib.hid (Row.fresh w1 34 allL)
  have HG := Lib.hid (gr_alloc hg (.cells allL.toArray 34))
  clear hg
  unfold allA
  go_wp2_with fail
  go_ret
  exact ⟨_, rfl, HR.out, HG.out⟩
theorem rExts_c (w : World) : Calls Tryd.prog 9 #[] w fun e w' => ∃ q, e = .returned (.slice (some ⟨q, 0, none⟩) 8 8) ∧ Row w' q 22 allL ∧ w.grownBy w' none := by
  have HR := Lib.hid (Row.fresh w 22 allL)
  have HG := Lib.hid (gr_alloc (gr_refl w none) (.cells allL.toArray 22))
  go_enter Tryd.func9, Tryd.ntmps9
  go_wp2_with fail
  go_ret
  exact ⟨_, rfl, HR.out, HG.out⟩
set_option maxHeartbeats 1000000 in
theorem rKnown_c (x : Int) (hx : 0 ≤ x ∧ x ≤ 18446744073709551615) (w : World) : Calls Tryd.prog 11 #[.int .u64 x] w fun e w' => e = .returned (.bool (knownV x)) ∧ w.grownBy w' none := by
  go_enter Tryd.func11, Tryd.ntmps11
  go_wp2_with fail
  refine (rExts_c w).mono ?_
  rintro e w1 ⟨q, rfl, hr, hg⟩
  have HG := Lib.hid hg
  have HR := Lib.hid hr
  clear hg hr
  go_wp2_with fail
  go_loopw [4] (fun y wr => ∃ i : Nat, y = .int .i64 i ∧ i ≤ 8 ∧ x ∉ exts.take i ∧ wr = w1) (fun y _ => 8 - (intOf y).toNat)
  case atStart => exact ⟨0, rfl, Nat.zero_le _, by simp, rfl⟩
  case round =>
    obtain ⟨i, rfl, hi, hm, rfl⟩ := hrel
    by_cases hlt : i < 8
    · have HT := Lib.hid (take_known hlt hm)
      have HK := Lib.hid (known_at (x := x) hlt)
      have hbl := HR.out.lt
      clear hm
      have hc : i = 0 ∨ i = 1 ∨ i = 2 ∨ i = 3 ∨ i = 4 ∨ i = 5 ∨ i = 6 ∨ i = 7 := by omega
      rcases hc with rfl | rfl | rfl | rfl | rfl | rfl | rfl | rfl
      · have k : wr.cell? ⟨q, 0, none⟩ = some (.int .u64 16) := HR.out.cell 0
        by_cases he : x = 16
        · have HV := Lib.hid (HK.out he)
          clear HT HK
          subst he
          go_wp2_with fail
          go_ret
          rw [HV.out]
          exact ⟨rfl, HG.out⟩
        · have HV := Lib.hid (HT.out he)
          have hb : (16 == x) = false := by simpa using fun h => he (Eq.symm h)
          clear HT HK he
          go_wp2_with fail
          go_roundw
          case rel => exact ⟨1, by go_num, by omega, HV.out, trivial⟩
          case measure => simp [intOf]
      · have k : wr.cell? ⟨q, 1, none⟩ = some (.int .u64 1414090053) := HR.out.cell 1
        by_cases he : x = 1414090053
        · have HV := Lib.hid (HK.out he)
          clear HT HK
          subst he
          go_wp2_with fail
          go_ret
          rw [HV.out]
          exact ⟨rfl, HG.out⟩
        · have HV := Lib.hid (HT.out he)
          have hb : (1414090053 == x) = false := by simpa using fun h => he (Eq.symm h)
          clear HT HK he
          go_wp2_with fail
          go_roundw
          case rel => exact ⟨2, by go_num, by omega, HV.out, trivial⟩
          case measure => simp [intOf]
      · have k : wr.cell? ⟨q, 2, none⟩ = some (.int .u64 7557193) := HR.out.cell 2
        by_cases he : x = 7557193
        · have HV := Lib.hid (HK.out he)
          clear HT HK
          subst he
          go_wp2_with fail
          go_ret
          rw [HV.out]
          exact ⟨rfl, HG.out⟩
        · have HV := Lib.hid (HT.out he)
          have hb : (7557193 == x) = false := by simpa using fun h => he (Eq.symm h)
          clear HT HK he
          go_wp2_with fail
          go_roundw
          case rel => exact ⟨3, by go_num, by omega, HV.out, trivial⟩
          case measure => simp [intOf]
      · have k : wr.cell? ⟨q, 3, none⟩ = some (.int .u64 1380339267) := HR.out.cell 3
        by_cases he : x = 1380339267
        · have HV := Lib.hid (HK.out he)
          clear HT HK
          subst he
          go_wp2_with fail
          go_ret
          rw [HV.out]
          exact ⟨rfl, HG.out⟩
        · have HV := Lib.hid (HT.out he)
          have hb : (1380339267 == x) = false := by simpa using fun h => he (Eq.symm h)
          clear HT HK he
          go_wp2_with fail
          go_roundw
          case rel => exact ⟨4, by go_num, by omega, HV.out, trivial⟩
          case measure => simp [intOf]
      · have k : wr.cell? ⟨q, 4, none⟩ = some (.int .u64 4739917) := HR.out.cell 4
        by_cases he : x = 4739917
        · have HV := Lib.hid (HK.out he)
          clear HT HK
          subst he
          go_wp2_with fail
          go_ret
          rw [HV.out]
          exact ⟨rfl, HG.out⟩
        · have HV := Lib.hid (HT.out he)
          have hb : (4739917 == x) = false := by simpa using fun h => he (Eq.symm h)
          clear HT HK he
          go_wp2_with fail
          go_roundw
          case rel => exact ⟨5, by go_num, by omega, HV.out, trivial⟩
          case measure => simp [intOf]
      · have k : wr.cell? ⟨q, 5, none⟩ = some (.int .u64 1397904212) := HR.out.cell 5
        by_cases he : x = 1397904212
        · have HV := Lib.hid (HK.out he)
          clear HT HK
          subst he
          go_wp2_with fail
          go_ret
          rw [HV.out]
          exact ⟨rfl, HG.out⟩
        · have HV := Lib.hid (HT.out he)
          have hb : (1397904212 == x) = false := by simpa using fun h => he (Eq.symm h)
          clear HT HK he
          go_wp2_with fail
          go_roundw
          case rel => exact ⟨6, by go_num, by omega, HV.out, trivial⟩
          case measure => simp [intOf]
      · have k : wr.cell? ⟨q, 6, none⟩ = some (.int .u64 1145193294) := HR.out.cell 6
        by_cases he : x = 1145193294
        · have HV := Lib.hid (HK.out he)
          clear HT HK
          subst he
          go_wp2_with fail
          go_ret
          rw [HV.out]
          exact ⟨rfl, HG.out⟩
        · have HV := Lib.hid (HT.out he)
          have hb : (1145193294 == x) = false := by simpa using fun h => he (Eq.symm h)
          clear HT HK he
          go_wp2_with fail
          go_roundw
          case rel => exact ⟨7, by go_num, by omega, HV.out, trivial⟩
          case measure => simp [intOf]
      · have k : wr.cell? ⟨q, 7, none⟩ = some (.int .u64 5262677) := HR.out.cell 7
        by_cases he : x = 5262677
        · have HV := Lib.hid (HK.out he)
          clear HT HK
          subst he
          go_wp2_with fail
          go_ret
          rw [HV.out]
          exact ⟨rfl, HG.out⟩
        · have HV := Lib.hid (HT.out he)
          have hb : (5262677 == x) = false := by simpa using fun h => he (Eq.symm h)
          clear HT HK he
          go_wp2_with fail
          go_roundw
          case rel => exact ⟨8, by go_num, by omega, HV.out, trivial⟩
          case measure => simp [intOf]
    · obtain rfl : i = 8 := by omega
      have HV := Lib.hid (known_none hm)
      clear hm
      go_wp2_with fail
      go_ret
      rw [HV.out]
      exact ⟨rfl, HG.out⟩
set_option maxHeartbeats 1000000 in
theorem rCall_c (fn a0 : Int) (hf : 0 ≤ fn ∧ fn ≤ 18446744073709551615) (ha : 0 ≤ a0 ∧ a0 ≤ 18446744073709551615) (w : World) :
    Calls Tryd.prog 7 #[.int .u64 fn, .int .u64 a0] w fun e w' => e = .returned (.tuple #[.int .i64 (callV fn a0).1, .int .u64 (callV fn a0).2]) ∧ w.grownBy w' none := by
  have HK := Lib.hid (rKnown_c a0 ha w)
  have hc : fn = 0 ∨ fn = 1 ∨ fn = 2 ∨ fn = 3 ∨ fn = 4 ∨ fn = 5 ∨ fn = 6 ∨ 6 < fn := by omega
  rcases hc with rfl | rfl | rfl | rfl | rfl | rfl | rfl | h6
  · clear HK
    go_enter Tryd.func7, Tryd.ntmps7
    go_wp2_with fail
    refine ret_tt rfl rfl rfl rfl ?_
    exact ⟨rfl, gr_refl _ _⟩
  · clear HK
    go_enter Tryd.func7, Tryd.ntmps7
    go_wp2_with fail
    refine ret_tt rfl rfl rfl rfl ?_
    exact ⟨rfl, gr_refl _ _⟩
  · clear HK
    go_enter Tryd.func7, Tryd.ntmps7
    go_wp2_with fail
    refine ret_tt rfl rfl rfl rfl ?_
    exact ⟨rfl, gr_refl _ _⟩
  · have HV := Lib.hid (call_three a0)
    go_enter Tryd.func7, Tryd.ntmps7
    go_wp2_with fail
    refine HK.out.mono ?_
    rintro e w1 ⟨rfl, hg⟩
    have HG := Lib.hid hg
    clear hg HK
    generalize knownV a0 = b at *
    cases b
    · go_wp2_with fail
      refine ret_tt rfl rfl rfl rfl ?_
      rw [HV.out]
      exact ⟨rfl, HG.out⟩
    · go_wp2_with fail
      refine ret_tt rfl rfl rfl rfl ?_
      rw [HV.out]
      exact ⟨rfl, HG.out⟩
  · clear HK
    go_enter Tryd.func7, Tryd.ntmps7
    go_wp2_with fail
    refine ret_tt rfl rfl rfl rfl ?_
    exact ⟨rfl, gr_refl _ _⟩
  · clear HK
    go_enter Tryd.func7, Tryd.ntmps7
    go_wp2_with fail
    refine ret_tt rfl rfl rfl rfl ?_
    exact ⟨rfl, gr_refl _ _⟩
  · clear HK
    go_enter Tryd.func7, Tryd.ntmps7
    go_wp2_with fail
    refine ret_tt rfl rfl rfl rfl ?_
    exact ⟨rfl, gr_refl _ _⟩
  · have HV := Lib.hid (call_more (a0 := a0) h6)
    have b0 : (fn == 0) = false := by simp; omega
    have b1 : (fn == 1) = false := by simp; omega
    have b2 : (fn == 2) = false := by simp; omega
    have b3 : (fn == 3) = false := by simp; omega
    have b4 : (fn == 4) = false := by simp; omega
    have b5 : (fn == 5) = false := by simp; omega
    have b6 : (fn == 6) = false := by simp; omega
    clear HK
    go_enter Tryd.func7, Tryd.ntmps7
    go_wp2_with fail
    refine ret_tt rfl rfl rfl rfl ?_
    rw [HV.out]
    exact ⟨rfl, gr_refl _ _⟩
theorem nam_at {n : Int} (h : n ≤ 0 ∧ -8 ≤ n) : ∃ k : Nat, k < 9 ∧ n = -(k : Int) ∧ nameV n = ⟨(namL.getD k []).toArray⟩ := by
  refine ⟨(-n).toNat, by omega, by omega, ?_⟩
  unfold nameV bytesV
  rw [if_neg (by omega), if_neg (by omega)]
theorem Name_c (n : Int) (hn : -9223372036854775808 ≤ n ∧ n ≤ 9223372036854775807) (w : World) (hw : Nms w) :
    Calls Tryd.prog 12 #[.int .i64 n] w fun e w' => e = .returned (.string (nameV n)) ∧ w = w' := by
  by_cases h : n ≤ 0 ∧ -8 ≤ n
  · obtain ⟨k, hk, rfl, hv⟩ := nam_at h
    have hc := hw k hk
    have HV := Lib.hid hv
    clear hv hw
    generalize (⟨(namL.getD k []).toArray⟩ : ByteArray) = s at *
    clear h
    go_enter Tryd.func12, Tryd.ntmps12
    go_wp2_with fail
    go_ret
    rw [HV.out]
    exact ⟨rfl, rfl⟩
  · have HV := Lib.hid (name_none.2 h)
    clear hw
    go_enter Tryd.func12, Tryd.ntmps12
    by_cases h1 : 0 < n
    · clear h
      go_wp2_with fail
      go_ret
      rw [HV.out]
      exact ⟨rfl, rfl⟩
    · have h2 : n < -8 := by omega
      clear h
      go_wp2_with fail
      go_ret
      rw [HV.out]
      exact ⟨rfl, rfl⟩
def nmL : List Value := namL.map fun z => .string ⟨z.toArray⟩
theorem rName_c (n : Int) (hn : -9223372036854775808 ≤ n ∧ n ≤ 9223372036854775807) (w : World) :
    Calls Tryd.prog 13 #[.int .i64 n] w fun e w' => e = .returned (.string (nameV n)) ∧ w.grownBy w' none := by
  have HR := Lib.hid (Row.fresh w 9 nmL)
  have HG := Lib.hid (gr_alloc (gr_refl w none) (.cells nmL.toArray 9))
  go_enter Tryd.func13, Tryd.ntmps13
  go_upto_region 2 with (fail)
  generalize hW : w.alloc _ = W
  have hbl : w.heap.size < W.heap.size := by rw [← hW]; exact HR.out.lt
  replace HR := Lib.hid (show Row W w.heap.size 9 nmL by rw [← hW]; exact HR.out)
  replace HG := Lib.hid (show w.grownBy W none by rw [← hW]; exact HG.out)
  clear hW
  generalize w.heap.size = q at *
  by_cases h : n ≤ 0 ∧ -8 ≤ n
  · obtain ⟨k, hk, rfl, hv⟩ := nam_at h
    have hc : W.cell? ⟨q, k, none⟩ = some (.string ⟨(namL.getD k []).toArray⟩) := by
      rw [HR.out.cell, nmL, List.getElem?_map, List.getD_eq_getElem?_getD, List.getElem?_eq_getElem (show k < namL.length from hk)]; rfl
    have HV := Lib.hid hv
    clear hv
    generalize (⟨(namL.getD k []).toArray⟩ : ByteArray) = s at *
    clear h
    go_wp2_with fail
    go_ret
    rw [HV.out]
    exact ⟨rfl, HG.out⟩
  · have HV := Lib.hid (name_none.2 h)
    by_cases h1 : 0 < n
    · clear h
      go_wp2_with fail
      go_ret
      rw [HV.out]
      exact ⟨rfl, HG.out⟩
    · have h2 : n < -8 := by omega
      clear h
      go_wp2_with fail
      go_ret
      rw [HV.out]
      exact ⟨rfl, HG.out⟩
end Go.Proofs.YtajamfnadnonoaaDoor
