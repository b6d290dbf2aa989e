/-
  Contracts of the document's own answers for layer 16 (package suzerainref16): Harts, Of: they answer as the plain functions do.
  Conditions: the arguments are numbers of their kinds; at most 70 harts.
-/
import Derived.Test.YtgcjefgblodfmaaMaskD
namespace Go.Proofs.Ytgcjefgblodfmaa
open Go Go.RowKit W M A Mk
set_option linter.unusedVariables false
set_option linter.unusedSimpArgs false

set_option maxHeartbeats 1000000 in
theorem rOf_c (v : Value) (l : List Int) (hl : l.length ≤ 70) (w : World) (hv : Sees w v l) :
    Calls Try.prog 13 #[v] w fun e w' => e = .returned (.int .u64 (ofV l : Nat)) ∧ w = w' := by
  obtain ⟨A, cap, rfl, hc, hs⟩ := hv
  have HS := Lib.hid hs
  clear hs
  go_enter Try.func13, Try.ntmps13
  go_wp2_with fail
  go_loopw [3, 4] (fun x y wr => ∃ i : Nat, y = .int .i64 i ∧ i ≤ l.length ∧ x = .int .u64 (ofV (l.take i) : Nat) ∧ wr = w) (fun _ y _ => l.length - (intOf y).toNat)
  case atStart => exact ⟨0, rfl, Nat.zero_le _, rfl, rfl⟩
  case round =>
    obtain ⟨i, rfl, hi, rfl, rfl⟩ := hrel
    by_cases hlt : i < l.length
    · obtain ⟨ad, rfl, hbl, hx⟩ := HS.out i hlt
      have hs := of_take hlt
      have h64 := of_lt (l.take i)
      generalize l.getD i 0 = h at *
      generalize ofV (l.take i) = m at *
      unfold ofStep at hs
      by_cases hh : 0 ≤ h ∧ h < 64
      · rw [if_pos hh] at hs
        have hh1 := hh.1
        have hh2 := hh.2
        have hor := shl_or (m := m) h64 hh
        have HS2 := Lib.hid hs
        clear hs hh
        go_wp2_with fail
        go_roundw
        case rel => exact ⟨i + 1, by go_num, by omega, by rw [HS2.out], trivial⟩
        case measure => simp [intOf]; omega
      · rw [if_neg hh] at hs
        have HS2 := Lib.hid hs
        clear hs
        by_cases h0 : 0 ≤ h
        · have h1 : 64 ≤ h := by omega
          clear hh
          go_wp2_with fail
          go_roundw
          case rel => exact ⟨i + 1, by go_num, by omega, by rw [HS2.out], trivial⟩
          case measure => simp [intOf]; omega
        · clear hh
          go_wp2_with fail
          go_roundw
          case rel => exact ⟨i + 1, by go_num, by omega, by rw [HS2.out], trivial⟩
          case measure => simp [intOf]; omega
    · obtain rfl : i = l.length := by omega
      rw [List.take_length]
      go_wp2_with fail
      go_ret
      exact ⟨rfl, rfl⟩
theorem made0 (w : World) : Arr (w.alloc (.cells #[] 3)) w.heap.size (.slice (some ⟨w.heap.size, 0, none⟩) 0 0) [] :=
  Arr.of (all := []) (cap := 0) (cur := []) (Nat.le_refl _) (Row.fresh w 3 []) (Nat.le_refl _) (by decide) rfl rfl
set_option maxHeartbeats 2000000 in
theorem rHarts_c (M : Nat) (b n : Int) (hM : M < 18446744073709551616) (hb : 0 ≤ b ∧ b ≤ 18446744073709551615) (hn : -9223372036854775808 ≤ n ∧ n ≤ 9223372036854775807) (w : World) :
    Calls Try.prog 9 #[.int .u64 (M : Int), .int .u64 b, .int .i64 n] w fun e w' => ∃ v, e = .returned (.tuple #[v, .bool (hartsV M b n).2]) ∧ Arr w' w.heap.size v (hartsV M b n).1 ∧ w.grownBy w' none := by
  obtain ⟨i0, hi0, hz0, hs0, hb0⟩ := info_parts infoI
  have HI := Lib.hid (And.intro hi0 (And.intro hz0 (And.intro hs0 hb0)))
  clear hi0 hz0 hs0 hb0
  have hm := many_int n
  have hle := many_le n
  have HE : ∀ r, (if b = 18446744073709551615 then (firstsV (manyV n), true) else ansV (pickV M b (manyV n) 64)) = r → hartsV M b n = r := fun r h => h
  generalize manyV n = N at *
  have HH := Lib.hid HE
  clear HE
  generalize hartsV M b n = r at *
  go_enter Try.func9, Try.ntmps9
  have hm' : (if 8 < if n < 0 then 0 else n then 8 else if n < 0 then 0 else n) = (N : Int) := by
    rw [hm]
    split
    · split at * <;> omega
    · split at * <;> omega
  clear hm
  go_upto_region 2 with (fail)
  clear hm'
  generalize (if n < 0 then (0 : Int) else n) = n0 at *
  have HA0 := Lib.hid (And.intro (made0 w) (gr_alloc (gr_refl w none) (.cells #[] 3)))
  go_upto_region 3 with (fail)
  generalize hV : w.alloc (.cells #[] 3) = V at *
  generalize hq : w.heap.size = q at *
  have HQ := Lib.hid hq
  clear hq hV
  by_cases hbe : b = 18446744073709551615
  · have hr := HH.out _ (if_pos hbe)
    subst hbe
    have HR := Lib.hid hr
    clear hr HH
    go_wp2_with fail
    go_loopw [8, 9] (fun x y wr => ∃ k : Nat, y = .int .i64 k ∧ k ≤ N ∧ Arr wr q x (firstsV k) ∧ w.grownBy wr none) (fun _ y _ => N - (intOf y).toNat)
    case atStart => exact ⟨0, rfl, Nat.zero_le _, HA0.out.1, HA0.out.2⟩
    case round =>
      obtain ⟨k, rfl, hk, hA, hG⟩ := hrel
      by_cases hlt : k < N
      · have hlen := firsts_length k
        have hsu := firsts_succ k
        generalize firstsV k = l at *
        have hA' : Arr wr w.heap.size u8 l := by rw [HQ.out]; exact hA
        have FIN := Lib.hid (fun ob g' cap' w' hown hgr => app_fin (x := (k : Int)) (ob := ob) (g := g') (cap := cap') (w' := w') hG hA' hown hgr)
        have gA := gr_alloc (gr_refl wr none) (.cells #[.int .i64 (k : Int)] 3)
        have W0A := Lib.hid (show (wr.alloc (.cells #[.int .i64 (k : Int)] 3)).ownsRow q 3 1 u8 l.length (nums l) from hA.kept gA)
        have W0N := Lib.hid (news_row (Row.fresh wr 3 [.int .i64 (k : Int)]))
        have W0B := Lib.hid (show q ≤ (wr.alloc (.cells #[.int .i64 (k : Int)] 3)).heap.size from by rw [← HQ.out]; exact Nat.le_trans hG.size gA.size)
        have HS := Lib.hid (And.intro hlen hsu)
        rw [HQ.out] at FIN
        clear hA hA' hG gA hsu
        go_wp2_with (at_builtin; refine wpList_append_lies _ rfl (.tmp 22) (.tmp 24) 24 rfl q 3 i0 _ 1 8 Try.underlying24 HI.out.1 HI.out.2.1 HI.out.2.2.1 HI.out.2.2.2 rfl (by decide) u8 l.length (nums l) rfl W0A.out ⟨wr.heap.size, 0, none⟩ 1 1 [.int .i64 (k : Int)] rfl (by rfl) W0N.out (by intro u hu; simp only [List.mem_cons, List.not_mem_nil, or_false] at hu; rcases hu with rfl; rfl) (by omega) (by unfold maxLen; omega) (by omega) W0B.out _ rfl ?_; intro g' cap' w' hown hgr hor hlt; have F1 := Lib.hid (FIN.out _ g' cap' w' hown hgr); clear hown hgr hor hlt FIN W0A W0N W0B)
        go_roundw
        case rel => exact ⟨k + 1, by go_num, by omega, by rw [HS.out.2]; have f1 := F1.out.1; rw [HS.out.1] at f1; simpa using f1, F1.out.2⟩
        case measure => simp [intOf]; omega
      · obtain rfl : k = N := by omega
        have HW := Lib.hid (And.intro hA hG)
        clear hA hG
        go_wp2_with fail
        refine ret_tt rfl rfl rfl rfl ?_
        rw [HR.out, HQ.out]
        exact ⟨_, rfl, HW.out.1, HW.out.2⟩
  · have hr := HH.out _ (if_neg hbe)
    have HR := Lib.hid hr
    have hbe' : (b == 18446744073709551615) = false := by simpa using hbe
    clear hr HH hbe
    go_wp2_with fail
    go_loopw [8, 10] (fun x y wr => ∃ (k : Nat) (l : List Int), y = .int .i64 k ∧ k ≤ 64 ∧ pickV M b N k = some l ∧ Arr wr q x l ∧ w.grownBy wr none) (fun _ y _ => 64 - (intOf y).toNat)
    case atStart => exact ⟨0, [], rfl, Nat.zero_le _, rfl, HA0.out.1, HA0.out.2⟩
    case round =>
      obtain ⟨k, l, rfl, hk, hp, hA, hG⟩ := hrel
      clear hbe'
      by_cases hlt : k < 64
      · have hbit := bit_and (k := k) hM
        cases ht : M.testBit k
        · have hpn := pick_skip hp ht
          rw [ht, if_neg (by simp)] at hbit
          have H := Lib.hid (And.intro hpn (And.intro hA hG))
          clear hpn hA hG hp
          go_wp2_with fail
          go_roundw
          case rel => exact ⟨k + 1, l, by go_num, by omega, H.out.1, H.out.2.1, H.out.2.2⟩
          case measure => simp [intOf]; omega
        · rw [ht, if_pos rfl] at hbit
          by_cases hn : b + (k : Int) < (N : Int)
          · have hpt := pick_take hp ht hn
            have hlen := pick_length hp
            have hA' : Arr wr w.heap.size u8 l := by rw [HQ.out]; exact hA
            have FIN := Lib.hid (fun ob g' cap' w' hown hgr => app_fin (x := b + (k : Int)) (ob := ob) (g := g') (cap := cap') (w' := w') hG hA' hown hgr)
            have gA := gr_alloc (gr_refl wr none) (.cells #[.int .i64 (b + (k : Int))] 3)
            have W0A := Lib.hid (show (wr.alloc (.cells #[.int .i64 (b + (k : Int))] 3)).ownsRow q 3 1 u8 l.length (nums l) from hA.kept gA)
            have W0N := Lib.hid (news_row (Row.fresh wr 3 [.int .i64 (b + (k : Int))]))
            have W0B := Lib.hid (show q ≤ (wr.alloc (.cells #[.int .i64 (b + (k : Int))] 3)).heap.size from by rw [← HQ.out]; exact Nat.le_trans hG.size gA.size)
            have HPT := Lib.hid hpt
            rw [HQ.out] at FIN
            have hn1 : b < (N : Int) := by omega
            clear hA hA' hG gA hp hpt
            go_wp2_with (at_builtin; refine wpList_append_lies _ rfl (.tmp 49) (.tmp 54) 24 rfl q 3 i0 _ 1 8 Try.underlying24 HI.out.1 HI.out.2.1 HI.out.2.2.1 HI.out.2.2.2 rfl (by decide) u8 l.length (nums l) rfl W0A.out ⟨wr.heap.size, 0, none⟩ 1 1 [.int .i64 (b + (k : Int))] rfl (by rfl) W0N.out (by intro u hu; simp only [List.mem_cons, List.not_mem_nil, or_false] at hu; rcases hu with rfl; rfl) (by omega) (by unfold maxLen; omega) (by omega) W0B.out _ rfl ?_; intro g' cap' w' hown hgr hor hlt; have F1 := Lib.hid (FIN.out _ g' cap' w' hown hgr); clear hown hgr hor hlt FIN W0A W0N W0B)
            go_roundw
            case rel => exact ⟨k + 1, _, by go_num, by omega, HPT.out, by have f1 := F1.out.1; rw [← List.length_singleton (a := b + (k : Int)), ← List.length_append] at f1; simpa using f1, F1.out.2⟩
            case measure => simp [intOf]; omega
          · have HPF := Lib.hid (pick_none' (pick_fail hp ht hn) (show k + 1 ≤ 64 by omega))
            have HG := Lib.hid hG
            clear hA hG hp
            by_cases hn1 : b < (N : Int)
            · go_wp2_with fail
              refine ret_tt rfl rfl rfl rfl ?_
              rw [HR.out, HPF.out]
              exact ⟨_, rfl, Arr.nil _ _, HG.out⟩
            · go_wp2_with fail
              refine ret_tt rfl rfl rfl rfl ?_
              rw [HR.out, HPF.out]
              exact ⟨_, rfl, Arr.nil _ _, HG.out⟩
      · obtain rfl : k = 64 := by omega
        have HW := Lib.hid (And.intro hA hG)
        have HP := Lib.hid hp
        clear hA hG hp
        go_wp2_with fail
        refine ret_tt rfl rfl rfl rfl ?_
        rw [HR.out, HP.out, HQ.out]
        exact ⟨_, rfl, HW.out.1, HW.out.2⟩
end Go.Proofs.Ytgcjefgblodfmaa
