/-
  Contracts of package base: all, Known, oneIf, Call; the document's example.
  Conditions: the arguments are numbers of their kinds.
-/
import Derived.Test.YtajamfnadnonoaaDoorProg
import Derived.Test.YtajamfnadnonoaaDoorBaseV
import Derived.Test.YtajamfnadnonoaaDoorRamM
import Derived.Lib.Hide
import Derived.Deep.Cut
namespace Go.Proofs.YtajamfnadnonoaaDoor
open Go Go.RowKit M Bs
set_option linter.unusedVariables false
set_option linter.unusedSimpArgs false

/-- The extensions as cells, and as a value: an array. -/
def allL : List Value := [.int .u64 16, .int .u64 1414090053, .int .u64 7557193, .int .u64 1380339267, .int .u64 4739917, .int .u64 1397904212, .int .u64 1145193294, .int .u64 5262677]
def allA : Value := .agg #[.int .u64 16, .int .u64 1414090053, .int .u64 7557193, .int .u64 1380339267, .int .u64 4739917, .int .u64 1397904212, .int .u64 1145193294, .int .u64 5262677]
theorem all_c (w : World) : Calls Tryd.prog 15 #[] w fun e w' => e = .returned allA ∧ w.grownBy w' none := by
  go_enter Tryd.func15, Tryd.ntmps15
  go_wp2_with fail
  exact bodyPost_ret (results_cell_row rfl _ _ w.heap.size 34 allL.toArray (0, 0) _ rfl (Row.fresh w 34 allL) Tryd.underlying34 rfl (by kernel_rfl)) rfl ⟨rfl, gr_alloc (gr_refl _ _) _⟩
set_option maxHeartbeats 1000000 in
theorem Known_c (x : Int) (hx : 0 ≤ x ∧ x ≤ 18446744073709551615) (w : World) : Calls Tryd.prog 10 #[.int .u64 x] w fun e w' => e = .returned (.bool (knownV x)) ∧ w.grownBy w' none := by
  go_enter Tryd.func10, Tryd.ntmps10
  go_wp2_with fail
  refine (all_c w).mono ?_
  rintro e w1 ⟨rfl, hg⟩
  have HG := Lib.hid hg
  clear hg
  unfold allA
  go_wp2_with fail
  go_loopw [6, 4] (fun y _ wr => ∃ i : Nat, y = .int .i64 i ∧ i ≤ 8 ∧ x ∉ exts.take i ∧ wr = w1) (fun y _ _ => 8 - (intOf y).toNat)
  case atStart => exact ⟨0, rfl, Nat.zero_le _, by simp, rfl⟩
  case round =>
    obtain ⟨i, rfl, hi, hm, rfl⟩ := hrel
    by_cases hlt : i < 8
    · have HT := Lib.hid (take_known hlt hm)
      have HK := Lib.hid (known_at (x := x) hlt)
      clear hm
      have hc : i = 0 ∨ i = 1 ∨ i = 2 ∨ i = 3 ∨ i = 4 ∨ i = 5 ∨ i = 6 ∨ i = 7 := by omega
      rcases hc with rfl | rfl | rfl | rfl | rfl | rfl | rfl | rfl
      · have ix : ∀ W, (Instr.index 34 (.agg #[.int .u64 16, .int .u64 1414090053, .int .u64 7557193, .int .u64 1380339267, .int .u64 4739917, .int .u64 1397904212, .int .u64 1145193294, .int .u64 5262677]) (.int .i64 0)).run Tryd.prog W = .ok (.int .u64 16) W := fun _ => by kernel_rfl
        by_cases he : x = 16
        · have HV := Lib.hid (HK.out he)
          clear HT HK
          subst he
          go_wp2_with fail
          go_ret
          rw [HV.out]
          exact ⟨rfl, HG.out⟩
        · have HV := Lib.hid (HT.out he)
          have hb : (x == 16) = false := by simpa using he
          clear HT HK he
          go_wp2_with fail
          go_roundw
          case rel => exact ⟨1, by go_num, by omega, HV.out, trivial⟩
          case measure => simp [intOf]
      · have ix : ∀ W, (Instr.index 34 (.agg #[.int .u64 16, .int .u64 1414090053, .int .u64 7557193, .int .u64 1380339267, .int .u64 4739917, .int .u64 1397904212, .int .u64 1145193294, .int .u64 5262677]) (.int .i64 1)).run Tryd.prog W = .ok (.int .u64 1414090053) W := fun _ => by kernel_rfl
        by_cases he : x = 1414090053
        · have HV := Lib.hid (HK.out he)
          clear HT HK
          subst he
          go_wp2_with fail
          go_ret
          rw [HV.out]
          exact ⟨rfl, HG.out⟩
        · have HV := Lib.hid (HT.out he)
          have hb : (x == 1414090053) = false := by simpa using he
          clear HT HK he
          go_wp2_with fail
          go_roundw
          case rel => exact ⟨2, by go_num, by omega, HV.out, trivial⟩
          case measure => simp [intOf]
      · have ix : ∀ W, (Instr.index 34 (.agg #[.int .u64 16, .int .u64 1414090053, .int .u64 7557193, .int .u64 1380339267, .int .u64 4739917, .int .u64 1397904212, .int .u64 1145193294, .int .u64 5262677]) (.int .i64 2)).run Tryd.prog W = .ok (.int .u64 7557193) W := fun _ => by kernel_rfl
        by_cases he : x = 7557193
        · have HV := Lib.hid (HK.out he)
          clear HT HK
          subst he
          go_wp2_with fail
          go_ret
          rw [HV.out]
          exact ⟨rfl, HG.out⟩
        · have HV := Lib.hid (HT.out he)
          have hb : (x == 7557193) = false := by simpa using he
          clear HT HK he
          go_wp2_with fail
          go_roundw
          case rel => exact ⟨3, by go_num, by omega, HV.out, trivial⟩
          case measure => simp [intOf]
      · have ix : ∀ W, (Instr.index 34 (.agg #[.int .u64 16, .int .u64 1414090053, .int .u64 7557193, .int .u64 1380339267, .int .u64 4739917, .int .u64 1397904212, .int .u64 1145193294, .int .u64 5262677]) (.int .i64 3)).run Tryd.prog W = .ok (.int .u64 1380339267) W := fun _ => by kernel_rfl
        by_cases he : x = 1380339267
        · have HV := Lib.hid (HK.out he)
          clear HT HK
          subst he
          go_wp2_with fail
          go_ret
          rw [HV.out]
          exact ⟨rfl, HG.out⟩
        · have HV := Lib.hid (HT.out he)
          have hb : (x == 1380339267) = false := by simpa using he
          clear HT HK he
          go_wp2_with fail
          go_roundw
          case rel => exact ⟨4, by go_num, by omega, HV.out, trivial⟩
          case measure => simp [intOf]
      · have ix : ∀ W, (Instr.index 34 (.agg #[.int .u64 16, .int .u64 1414090053, .int .u64 7557193, .int .u64 1380339267, .int .u64 4739917, .int .u64 1397904212, .int .u64 1145193294, .int .u64 5262677]) (.int .i64 4)).run Tryd.prog W = .ok (.int .u64 4739917) W := fun _ => by kernel_rfl
        by_cases he : x = 4739917
        · have HV := Lib.hid (HK.out he)
          clear HT HK
          subst he
          go_wp2_with fail
          go_ret
          rw [HV.out]
          exact ⟨rfl, HG.out⟩
        · have HV := Lib.hid (HT.out he)
          have hb : (x == 4739917) = false := by simpa using he
          clear HT HK he
          go_wp2_with fail
          go_roundw
          case rel => exact ⟨5, by go_num, by omega, HV.out, trivial⟩
          case measure => simp [intOf]
      · have ix : ∀ W, (Instr.index 34 (.agg #[.int .u64 16, .int .u64 1414090053, .int .u64 7557193, .int .u64 1380339267, .int .u64 4739917, .int .u64 1397904212, .int .u64 1145193294, .int .u64 5262677]) (.int .i64 5)).run Tryd.prog W = .ok (.int .u64 1397904212) W := fun _ => by kernel_rfl
        by_cases he : x = 1397904212
        · have HV := Lib.hid (HK.out he)
          clear HT HK
          subst he
          go_wp2_with fail
          go_ret
          rw [HV.out]
          exact ⟨rfl, HG.out⟩
        · have HV := Lib.hid (HT.out he)
          have hb : (x == 1397904212) = false := by simpa using he
          clear HT HK he
          go_wp2_with fail
          go_roundw
          case rel => exact ⟨6, by go_num, by omega, HV.out, trivial⟩
          case measure => simp [intOf]
      · have ix : ∀ W, (Instr.index 34 (.agg #[.int .u64 16, .int .u64 1414090053, .int .u64 7557193, .int .u64 1380339267, .int .u64 4739917, .int .u64 1397904212, .int .u64 1145193294, .int .u64 5262677]) (.int .i64 6)).run Tryd.prog W = .ok (.int .u64 1145193294) W := fun _ => by kernel_rfl
        by_cases he : x = 1145193294
        · have HV := Lib.hid (HK.out he)
          clear HT HK
          subst he
          go_wp2_with fail
          go_ret
          rw [HV.out]
          exact ⟨rfl, HG.out⟩
        · have HV := Lib.hid (HT.out he)
          have hb : (x == 1145193294) = false := by simpa using he
          clear HT HK he
          go_wp2_with fail
          go_roundw
          case rel => exact ⟨7, by go_num, by omega, HV.out, trivial⟩
          case measure => simp [intOf]
      · have ix : ∀ W, (Instr.index 34 (.agg #[.int .u64 16, .int .u64 1414090053, .int .u64 7557193, .int .u64 1380339267, .int .u64 4739917, .int .u64 1397904212, .int .u64 1145193294, .int .u64 5262677]) (.int .i64 7)).run Tryd.prog W = .ok (.int .u64 5262677) W := fun _ => by kernel_rfl
        by_cases he : x = 5262677
        · have HV := Lib.hid (HK.out he)
          clear HT HK
          subst he
          go_wp2_with fail
          go_ret
          rw [HV.out]
          exact ⟨rfl, HG.out⟩
        · have HV := Lib.hid (HT.out he)
          have hb : (x == 5262677) = false := by simpa using he
          clear HT HK he
          go_wp2_with fail
          go_roundw
          case rel => exact ⟨8, by go_num, by omega, HV.out, trivial⟩
          case measure => simp [intOf]
    · obtain rfl : i = 8 := by omega
      have HV := Lib.hid (known_none hm)
      clear hm
      go_wp2_with fail
      go_ret
      rw [HV.out]
      exact ⟨rfl, HG.out⟩
theorem oneIf_c (b : Bool) (w : World) : Calls Tryd.prog 14 #[.bool b] w fun e w' => e = .returned (.int .u64 (oneV b)) ∧ w = w' := by
  go_enter Tryd.func14, Tryd.ntmps14
  cases b
  · go_wp2_with fail
    go_ret
    exact ⟨rfl, rfl⟩
  · go_wp2_with fail
    go_ret
    exact ⟨rfl, rfl⟩
/-- Two results that are values. -/
theorem ret_tt {fn : Func} {p u : Tmp} (h : fn.results = #[.tmp p, .tmp u]) {R : Ending → World → Prop} {a : Act} {w : World} {x y : Value}
    (hp : a.tmps.getD p undef = x) (hk : a.tmps.getD u undef = y) (hd : a.defers = []) (hQ : R (.returned (.tuple #[x, y])) w) : bodyPost Tryd.prog fn R .ret a w := by
  refine bodyPost_ret (v := .tuple #[x, y]) ?_ hd hQ
  have hp' : a.tmps[p]?.getD undef = x := by simpa using hp
  have hk' : a.tmps[u]?.getD undef = y := by simpa using hk
  simp [results, h, hp', hk']
def callA (fn a0 : Int) : Value := .tuple #[.int .i64 (callV fn a0).1, .int .u64 (callV fn a0).2]
set_option maxHeartbeats 1000000 in
theorem Call_c (fn a0 : Int) (hf : 0 ≤ fn ∧ fn ≤ 18446744073709551615) (ha : 0 ≤ a0 ∧ a0 ≤ 18446744073709551615) (w : World) :
    Calls Tryd.prog 6 #[.int .u64 fn, .int .u64 a0] w fun e w' => e = .returned (.tuple #[.int .i64 (callV fn a0).1, .int .u64 (callV fn a0).2]) ∧ w.grownBy w' none := by
  have HK := Lib.hid (Known_c a0 ha w)
  have hc : fn = 0 ∨ fn = 1 ∨ fn = 2 ∨ fn = 3 ∨ fn = 4 ∨ fn = 5 ∨ fn = 6 ∨ 6 < fn := by omega
  rcases hc with rfl | rfl | rfl | rfl | rfl | rfl | rfl | h6
  · clear HK
    go_enter Tryd.func6, Tryd.ntmps6
    go_wp2_with fail
    refine ret_tt rfl rfl rfl rfl ?_
    exact ⟨rfl, gr_refl _ _⟩
  · clear HK
    go_enter Tryd.func6, Tryd.ntmps6
    go_wp2_with fail
    refine ret_tt rfl rfl rfl rfl ?_
    exact ⟨rfl, gr_refl _ _⟩
  · clear HK
    go_enter Tryd.func6, Tryd.ntmps6
    go_wp2_with fail
    refine ret_tt rfl rfl rfl rfl ?_
    exact ⟨rfl, gr_refl _ _⟩
  · have HV := Lib.hid (call_three a0)
    go_enter Tryd.func6, Tryd.ntmps6
    go_wp2_with fail
    refine HK.out.mono ?_
    rintro e w1 ⟨rfl, hg⟩
    have HG := Lib.hid hg
    clear hg HK
    go_wp2_with fail
    refine (oneIf_c _ _).mono ?_
    rintro e w2 ⟨rfl, rfl⟩
    go_wp2_with fail
    refine ret_tt rfl rfl rfl rfl ?_
    rw [HV.out]
    exact ⟨rfl, HG.out⟩
  · clear HK
    go_enter Tryd.func6, Tryd.ntmps6
    go_wp2_with fail
    refine ret_tt rfl rfl rfl rfl ?_
    exact ⟨rfl, gr_refl _ _⟩
  · clear HK
    go_enter Tryd.func6, Tryd.ntmps6
    go_wp2_with fail
    refine ret_tt rfl rfl rfl rfl ?_
    exact ⟨rfl, gr_refl _ _⟩
  · clear HK
    go_enter Tryd.func6, Tryd.ntmps6
    go_wp2_with fail
    refine ret_tt rfl rfl rfl rfl ?_
    exact ⟨rfl, gr_refl _ _⟩
  · have HV := Lib.hid (call_more (a0 := a0) h6)
    have b0 : (fn == 0) = false := by simp; omega
    have b1 : (fn == 1) = false := by simp; omega
    have b2 : (fn == 2) = false := by simp; omega
    have b3 : (fn == 3) = false := by simp; omega
    have b4 : (fn == 4) = false := by simp; omega
    have b5 : (fn == 5) = false := by simp; omega
    have b6 : (fn == 6) = false := by simp; omega
    clear HK
    go_enter Tryd.func6, Tryd.ntmps6
    go_wp2_with fail
    refine ret_tt rfl rfl rfl rfl ?_
    rw [HV.out]
    exact ⟨rfl, gr_refl _ _⟩
theorem shown17_c (w : World) : Calls Tryd.prog 5 #[] w fun e w' => e = .returned (.bool true) ∧ w.grownBy w' none := by
  have HV := Lib.hid (show callV 3 16 = (0, 1) from by decide)
  go_enter Tryd.func5, Tryd.ntmps5
  go_wp2_with fail
  refine (Call_c 3 16 (by omega) (by omega) w).mono ?_
  rintro e w1 ⟨rfl, hg⟩
  have HG := Lib.hid hg
  clear hg
  rw [HV.out]
  go_wp2_with fail
  go_ret
  exact ⟨rfl, HG.out⟩
end Go.Proofs.YtajamfnadnonoaaDoor
