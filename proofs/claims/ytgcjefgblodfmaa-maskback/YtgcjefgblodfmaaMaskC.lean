/-
  Contracts of package mask: below, firsts, picked, Harts, Of, over the translation.
  Conditions: the arguments are numbers of their kinds.
-/
import Derived.Test.YtgcjefgblodfmaaMaskM
import Derived.Deep.Cut
namespace Go.Proofs.Ytgcjefgblodfmaa
open Go Go.RowKit W M Mk
set_option linter.unusedVariables false
set_option linter.unusedSimpArgs false

theorem below_c (b : Int) (k N : Nat) (hb : 0 ≤ b ∧ b ≤ 18446744073709551615) (hk : k < 64) (hN : N ≤ 8) (w : World) :
    Calls Try.prog 16 #[.int .u64 b, .int .i64 (k : Int), .int .i64 (N : Int)] w fun e w' => e = .returned (.bool (decide (b + (k : Int) < (N : Int)))) ∧ w = w' := by
  go_enter Try.func16, Try.ntmps16
  by_cases h : b < N
  · go_wp2_with fail
    go_ret
    refine ⟨?_, rfl⟩
    show Ending.returned (.bool (decide ((k : Int) < (N : Int) - b))) = _
    rw [decide_eq_decide.2 (show (k : Int) < (N : Int) - b ↔ b + (k : Int) < (N : Int) by omega)]
  · go_wp2_with fail
    go_ret
    refine ⟨?_, rfl⟩
    show Ending.returned (.bool false) = _
    rw [decide_eq_false (show ¬ (b + (k : Int) < (N : Int)) by omega)]
set_option maxHeartbeats 1000000 in
theorem firsts_c (N : Nat) (hN : N ≤ 8) (w : World) :
    Calls Try.prog 14 #[.int .i64 (N : Int)] w fun e w' => ∃ v, e = .returned v ∧ Arr w' w.heap.size v (firstsV N) ∧ w.grownBy w' none := by
  have MK := Lib.hid (make_i64 N (by omega))
  go_enter Try.func14, Try.ntmps14
  have mk := MK.out
  go_upto_region 2 with (fail)
  have hr := Row.fresh w 3 (nums (List.replicate N 0))
  have hg := gr_alloc (gr_refl w none) (.cells (nums (List.replicate N 0)).toArray 3)
  generalize w.alloc (.cells (nums (List.replicate N 0)).toArray 3) = V at *
  clear mk MK
  have HR := Lib.hid (And.intro hr hg)
  generalize hq : w.heap.size = g at *
  have HQ := Lib.hid hq
  clear hr hg hq
  go_wp2_with fail
  go_loopw [9, 4] (fun x _ wr => ∃ i : Nat, x = .int .i64 i ∧ i ≤ N ∧ Row wr g 3 (nums (pad i N)) ∧ w.grownBy wr none) (fun x _ _ => N - (intOf x).toNat)
  case atStart => exact ⟨0, rfl, Nat.zero_le _, by simpa [pad, firstsV] using HR.out.1, HR.out.2⟩
  case round =>
    obtain ⟨i, rfl, hi, hw, hG⟩ := hrel
    by_cases hlt : i < N
    · have hc0 : wr.cell? ⟨g, i, none⟩ = some (.int .i64 0) := by rw [hw.cell]; exact pad_get hlt
      have hfree := hw.free i
      have hn := hw.put i (.int .i64 (i : Int))
      rw [pad_set hlt] at hn
      have HN := Lib.hid (And.intro hn (gr_row (gr_set (i := i) (gr_none hG (some g)) (.int .i64 (i : Int))) (by rw [HQ.out]; exact Nat.le_refl _)))
      have lt := hw.lt
      clear hn hw hG
      go_wp2_with fail
      go_roundw
      case rel => exact ⟨i + 1, by go_num, by omega, HN.out.1, HN.out.2⟩
      case measure => simp [intOf]; omega
    · obtain rfl : i = N := by omega
      rw [pad_full] at hw
      have HW := Lib.hid (And.intro hw hG)
      clear hw hG
      go_wp2_with fail
      go_ret
      refine ⟨_, rfl, ?_, HW.out.2⟩
      have ha := Arr.of (lo := g) (all := firstsV i) (cap := i) (Nat.le_refl g) HW.out.1 (by rw [firsts_length]; exact Nat.le_refl _) (by unfold maxLen; omega) (by rw [nums_length, firsts_length]) (List.take_of_length_le (by rw [nums_length]; exact Nat.le_refl _))
      rw [firsts_length] at ha
      rw [HQ.out]
      exact ha
set_option maxHeartbeats 2000000 in
theorem picked_c (M : Nat) (b : Int) (N : Nat) (hM : M < 18446744073709551616) (hb : 0 ≤ b ∧ b ≤ 18446744073709551615) (hN : N ≤ 8) (w : World) :
    Calls Try.prog 15 #[.int .u64 (M : Int), .int .u64 b, .int .i64 (N : Int)] w fun e w' => ∃ v, e = .returned (.tuple #[v, .bool (ansV (pickV M b N 64)).2]) ∧ Arr w' w.heap.size v (ansV (pickV M b N 64)).1 ∧ w.grownBy w' none := by
  obtain ⟨i0, hi0, hz0, hs0, hb0⟩ := info_parts infoI
  have HI := Lib.hid (And.intro hi0 (And.intro hz0 (And.intro hs0 hb0)))
  clear hi0 hz0 hs0 hb0
  go_enter Try.func15, Try.ntmps15
  go_wp2_with fail
  go_loopw [8, 10, 9] (fun x y _ wr => ∃ (k : Nat) (l : List Int), y = .int .i64 k ∧ k ≤ 64 ∧ pickV M b N k = some l ∧ Arr wr w.heap.size x l ∧ w.grownBy wr none) (fun _ y _ _ => 64 - (intOf y).toNat)
  case atStart => exact ⟨0, [], rfl, Nat.zero_le _, rfl, Arr.nil _ _, gr_refl _ _⟩
  case round =>
    obtain ⟨k, l, rfl, hk, hp, hA, hG⟩ := hrel
    by_cases hlt : k < 64
    · have hbit := bit_and (k := k) hM
      have B := Lib.hid (below_c b k N hb hlt hN wr)
      cases ht : M.testBit k
      · have hpn := pick_skip hp ht
        rw [ht, if_neg (by simp)] at hbit
        have H := Lib.hid (And.intro hpn (And.intro hA hG))
        clear hpn hA hG hp
        go_wp2_with fail
        go_roundw
        case rel => exact ⟨k + 1, l, by go_num, by omega, H.out.1, H.out.2.1, H.out.2.2⟩
        case measure => simp [intOf]; omega
      · rw [ht, if_pos rfl] at hbit
        by_cases hn : b + (k : Int) < (N : Int)
        · have hpt := pick_take hp ht hn
          rw [decide_eq_true hn] at B
          have hlen := pick_length hp
          have FIN := Lib.hid (fun ob g' cap' w' hown hgr => app_fin (x := b + (k : Int)) (ob := ob) (g := g') (cap := cap') (w' := w') hG hA hown hgr)
          have gA := gr_alloc (gr_refl wr none) (.cells #[.int .i64 (b + (k : Int))] 3)
          have W0A := Lib.hid (show (wr.alloc (.cells #[.int .i64 (b + (k : Int))] 3)).ownsRow w.heap.size 3 1 u8 l.length (nums l) from hA.kept gA)
          have W0N := Lib.hid (news_row (Row.fresh wr 3 [.int .i64 (b + (k : Int))]))
          have W0B := Lib.hid (show w.heap.size ≤ (wr.alloc (.cells #[.int .i64 (b + (k : Int))] 3)).heap.size from Nat.le_trans hG.size gA.size)
          have HPT := Lib.hid hpt
          clear hA hG gA hp hpt
          go_wp2_with fail
          refine B.out.mono ?_
          rintro e w1 ⟨rfl, rfl⟩
          go_wp2_with (at_builtin; refine wpList_append_lies _ rfl (.tmp 23) (.tmp 28) 24 rfl w.heap.size 3 i0 _ 1 8 Try.underlying24 HI.out.1 HI.out.2.1 HI.out.2.2.1 HI.out.2.2.2 rfl (by decide) u8 l.length (nums l) rfl W0A.out ⟨wr.heap.size, 0, none⟩ 1 1 [.int .i64 (b + (k : Int))] rfl (by rfl) W0N.out (by intro u hu; simp only [List.mem_cons, List.not_mem_nil, or_false] at hu; rcases hu with rfl; rfl) (by omega) (by unfold maxLen; omega) (by omega) W0B.out _ rfl ?_; intro g' cap' w' hown hgr hor hlt; have F1 := Lib.hid (FIN.out _ g' cap' w' hown hgr); clear hown hgr hor hlt FIN W0A W0N W0B)
          go_roundw
          case rel => exact ⟨k + 1, _, by go_num, by omega, HPT.out, by have f1 := F1.out.1; rw [← List.length_singleton (a := b + (k : Int)), ← List.length_append] at f1; simpa using f1, F1.out.2⟩
          case measure => simp [intOf]; omega
        · have HPF := Lib.hid (pick_none' (pick_fail hp ht hn) (show k + 1 ≤ 64 by omega))
          rw [decide_eq_false hn] at B
          have HG := Lib.hid hG
          clear hA hG hp
          go_wp2_with fail
          refine B.out.mono ?_
          rintro e w1 ⟨rfl, rfl⟩
          go_wp2_with fail
          refine ret_tt rfl rfl rfl rfl ?_
          rw [HPF.out]
          exact ⟨_, rfl, Arr.nil _ _, HG.out⟩
    · obtain rfl : k = 64 := by omega
      have HW := Lib.hid (And.intro hA hG)
      have HP := Lib.hid hp
      clear hA hG hp
      go_wp2_with fail
      refine ret_tt rfl rfl rfl rfl ?_
      rw [HP.out]
      exact ⟨_, rfl, HW.out.1, HW.out.2⟩
end Go.Proofs.Ytgcjefgblodfmaa
