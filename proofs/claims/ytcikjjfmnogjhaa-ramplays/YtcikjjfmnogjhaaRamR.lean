/-
  What each function of the document's own answer for layer 2 does: contracts over the program's translation.
  Conditions: the arguments are numbers of their kinds; memory stands as 'At' says.
-/
import Derived.Test.YtcikjjfmnogjhaaRamC
import Derived.Deep.RegionWith
import Derived.IntWalk
namespace Go.Proofs.Ytcikjjfmnogjhaa
open Go Go.RowKit M
set_option linter.unusedVariables false

abbrev QAt := At 45 5

set_option maxHeartbeats 400000 in
theorem rsize_c (n : Int) (hn : -9223372036854775808 ≤ n ∧ n ≤ 9223372036854775807) (w : World) :
    Calls Try.prog 25 #[.int .i64 n] w fun e w' => e = .returned (.bool (widB n)) ∧ w = w' := by
  go_enter Try.func25, Try.ntmps25
  go_wp2
  all_goals
    go_ret
    exact ⟨ret_bool (by rw [Bool.eq_iff_iff]; simp [widB]; try omega), rfl⟩

set_option maxHeartbeats 400000 in
theorem rHas_c (p g : Nat) (bs : List Int) (a n : Int) (w : World) (h : QAt w p g bs) (ha : 0 ≤ a ∧ a ≤ 18446744073709551615) (hn : -9223372036854775808 ≤ n ∧ n ≤ 9223372036854775807) :
    Calls Try.prog 20 #[.pointer (some ⟨p, 0, none⟩), .int .u64 a, .int .i64 n] w fun e w' => e = .returned (.bool (hasB bs.length a n)) ∧ w = w' := by
  have hc := h.head
  have hl := h.len
  clear h
  go_enter Try.func20, Try.ntmps20
  go_wp2
  all_goals
    go_ret
    exact ⟨ret_bool (by rw [Bool.eq_iff_iff]; simp [hasB]; try omega), rfl⟩

set_option maxHeartbeats 400000 in
theorem rNew_no (n : Int) (hn : -9223372036854775808 ≤ n ∧ n ≤ 9223372036854775807) (h : n < 1 ∨ 16 < n) (w : World) :
    Calls Try.prog 9 #[.int .i64 n] w fun e w' => e = .returned (.tuple #[.pointer (some ⟨w.heap.size, 0, none⟩), .int .i64 1]) ∧ w.grownBy w' none := by
  rcases h with h | h
  all_goals
    go_enter Try.func9, Try.ntmps9
    go_wp2
    go_ret2
    exact ⟨rfl, gr_alloc (gr_refl _ _) _⟩

def rMade (q : Nat) (w : World) (e : Ending) (w' : World) : Prop :=
  e = .returned (.tuple #[.pointer (some ⟨w.heap.size + 1, 0, none⟩), .int .i64 0]) ∧ QAt w' (w.heap.size + 1) w.heap.size (List.replicate (q * 4096) 0) ∧ w.grownBy w' none
set_option maxHeartbeats 400000 in
theorem rNew_yes (q : Nat) (h1 : 1 ≤ q) (h2 : q ≤ 16) (w : World) : Calls Try.prog 9 #[.int .i64 q] w (rMade q w) := by
  have hmk : ∀ W : World, (Instr.makeSlice 32 (.int .i64 ((q : Int) * 4096)) (.int .i64 ((q : Int) * 4096))).run Try.prog W = .ok (.slice (some ⟨W.heap.size, 0, none⟩) (q * 4096) (q * 4096)) (W.alloc (.cells (vals (List.replicate (q * 4096) 0)).toArray 5)) := by
    intro W
    simpa using make_u8 (q * 4096) (by omega) W
  go_enter Try.func9, Try.ntmps9
  go_wp2
  go_ret2
  refine ⟨rfl, ⟨?_, ?_, ?_, by simp; omega⟩, gr_alloc (gr_alloc (gr_refl _ _) _) _⟩
  · have := Row.fresh (w.alloc (.cells (vals (List.replicate (q * 4096) 0)).toArray 5)) 45 [.slice (some ⟨w.heap.size, 0, none⟩) (q * 4096) (q * 4096)]
    simpa using this
  · exact (Row.fresh w 5 _).alloc _
  · intro b hb
    rw [List.eq_of_mem_replicate hb]; omega

set_option maxHeartbeats 400000 in
theorem rGet_no (p g : Nat) (bs : List Int) (a n : Int) (w : World) (h : QAt w p g bs) (ha : 0 ≤ a ∧ a ≤ 18446744073709551615) (hn : -9223372036854775808 ≤ n ∧ n ≤ 9223372036854775807) (hk : okB bs.length a n = false) :
    Calls Try.prog 11 #[.pointer (some ⟨p, 0, none⟩), .int .u64 a, .int .i64 n] w fun e w' => e = .returned (.tuple #[.int .u64 0, .bool false]) ∧ w = w' := by
  by_cases hw : widB n = true
  · have hh : hasB bs.length a n = false := by simpa [okB, hw] using hk
    go_enter Try.func11, Try.ntmps11
    go_wp2_with (first | (go_at_call 25; refine (rsize_c _ hn _).mono ?_; rintro e w' ⟨rfl, rfl⟩) | (go_at_call 20; refine (rHas_c p g bs _ _ _ h ha hn).mono ?_; rintro e w' ⟨rfl, rfl⟩))
    go_ret2
    exact ⟨rfl, rfl⟩
  · have hw : widB n = false := by simpa using hw
    go_enter Try.func11, Try.ntmps11
    go_wp2_with (first | (go_at_call 25; refine (rsize_c _ hn _).mono ?_; rintro e w' ⟨rfl, rfl⟩) | (go_at_call 20; refine (rHas_c p g bs _ _ _ h ha hn).mono ?_; rintro e w' ⟨rfl, rfl⟩))
    go_ret2
    exact ⟨rfl, rfl⟩

set_option maxHeartbeats 400000 in
theorem rGet_yes (p g : Nat) (bs : List Int) (a n : Int) (w : World) (h : QAt w p g bs) (ha : 0 ≤ a ∧ a ≤ 18446744073709551615) (hk : okB bs.length a n = true) :
    Calls Try.prog 11 #[.pointer (some ⟨p, 0, none⟩), .int .u64 a, .int .i64 n] w fun e w' => e = .returned (.tuple #[.int .u64 (leV ((bs.drop (offV a)).take n.toNat)), .bool true]) ∧ w = w' := by
  obtain ⟨hw, hh⟩ := ok_of hk
  have hn := wid_of hw
  have ho := has_off hh
  obtain ⟨m, rfl⟩ : ∃ m : Nat, n = m := ⟨n.toNat, by omega⟩
  rw [Int.toNat_natCast] at ho ⊢
  obtain ⟨f, hf⟩ : ∃ f, f = offV a := ⟨_, rfl⟩
  rw [← hf] at ho ⊢
  obtain rfl : a = 2147483648 + (f : Int) := by omega
  replace ho := ho.2
  have hl := h.len
  have hcd := h.head
  have hc : ∀ k, k < m → w.cell? ⟨g, f + k, none⟩ = some (.int .u8 (bs.getD (f + k) 0)) := fun k hk => h.cell (by omega)
  have hs : ∀ k, k < m → 0 ≤ bs.getD (f + k) 0 ∧ bs.getD (f + k) 0 ≤ 255 ∧ (0 ≤ leV ((bs.drop (f + (k + 1))).take (m - (k + 1))) ∧ leV ((bs.drop (f + (k + 1))).take (m - (k + 1))) < 72057594037927936) ∧
      leV ((bs.drop (f + k)).take (m - k)) = bs.getD (f + k) 0 + 256 * leV ((bs.drop (f + (k + 1))).take (m - (k + 1))) := by
    intro k hk
    have hbk := h.byt (bs.getD (f + k) 0) (by
      rw [List.getD, List.getElem?_eq_getElem (show f + k < bs.length by omega)]; simp)
    have hbd := leV_bd _ (take_byt (drop_byt h.byt (f + (k + 1))) (m - (k + 1)))
    have hle : (256 : Int) ^ ((bs.drop (f + (k + 1))).take (m - (k + 1))).length ≤ 256 ^ 7 := p256_le (by rw [List.length_take]; omega)
    refine ⟨hbk.1, hbk.2, ⟨hbd.1, by omega⟩, ?_⟩
    rw [List.drop_eq_getElem_cons (show f + k < bs.length by omega), show m - k = (m - (k + 1)) + 1 from by omega, List.take_succ_cons, leV, Nat.add_assoc]
    simp [List.getD, List.getElem?_eq_getElem (show f + k < bs.length by omega)]
  have HC := Lib.hid hc
  have HS := Lib.hid hs
  have HF := Lib.hid hf
  clear hc hk hs hf
  go_enter Try.func11, Try.ntmps11
  go_wp2_with (first | (go_at_call 25; refine (rsize_c _ (by omega) _).mono ?_; rintro e w' ⟨rfl, rfl⟩) | (go_at_call 20; refine (rHas_c p g bs _ _ _ h ha (by omega)).mono ?_; rintro e w' ⟨rfl, rfl⟩))
  go_loop [9, 10] (fun x i => ∃ k : Nat, k ≤ m ∧ i = .int .i64 ((k : Int) - 1) ∧ x = .int .u64 (leV ((bs.drop (f + k)).take (m - k)))) (fun _ i => (intOf i + 1).toNat)
  case atStart => exact ⟨m, Nat.le_refl _, rfl, by rw [Nat.sub_self]; rfl⟩
  case round =>
    obtain ⟨k, hk, rfl, rfl⟩ := hrel
    cases k with
    | zero =>
      rw [show ((0 : Nat) : Int) - 1 = -1 from rfl]
      go_wp2
      go_ret2
      exact ⟨rfl, rfl⟩
    | succ j =>
      rw [show ((j + 1 : Nat) : Int) - 1 = j from by omega]
      have hcell := HC.out j (by omega)
      obtain ⟨hb0, hb1, hx, hst⟩ := HS.out j (by omega)
      obtain ⟨b, hb⟩ : ∃ b, b = bs.getD (f + j) 0 := ⟨_, rfl⟩
      rw [← hb] at hcell hb0 hb1 hst
      obtain ⟨y, hy⟩ : ∃ y, y = leV ((bs.drop (f + (j + 1))).take (m - (j + 1))) := ⟨_, rfl⟩
      rw [← hy] at hx hst ⊢
      have hff : f + j < bs.length := by omega
      have hif : (((2147483648 : Int) + f - 2147483648) + j).toNat = f + j := by omega
      have HST := Lib.hid hst
      clear hb hst hy
      go_wp2
      go_round
      case rel => exact ⟨j, by omega, rfl, by rw [HST.out, Int.mul_comm y 256, Int.add_comm]⟩
      case measure => simp [intOf]

theorem rGet_c (p g : Nat) (bs : List Int) (a n : Int) (w : World) (h : QAt w p g bs) (ha : 0 ≤ a ∧ a ≤ 18446744073709551615) (hn : -9223372036854775808 ≤ n ∧ n ≤ 9223372036854775807) :
    Calls Try.prog 11 #[.pointer (some ⟨p, 0, none⟩), .int .u64 a, .int .i64 n] w fun e w' => e = .returned (.tuple #[.int .u64 (getV bs a n), .bool (okB bs.length a n)]) ∧ w = w' := by
  cases hk : okB bs.length a n
  · have := rGet_no p g bs a n w h ha hn hk
    simpa [getV, hk] using this
  · have := rGet_yes p g bs a n w h ha hk
    simpa [getV, hk] using this

def rWrote (w : World) (p g : Nat) (cs : List Int) (v : Bool) (e : Ending) (w' : World) : Prop :=
  e = .returned (.bool v) ∧ QAt w' p g cs ∧ w.grownBy w' (some g)

set_option maxHeartbeats 400000 in
theorem rPut_no (p g : Nat) (bs : List Int) (a n x : Int) (w : World) (h : QAt w p g bs) (ha : 0 ≤ a ∧ a ≤ 18446744073709551615) (hn : -9223372036854775808 ≤ n ∧ n ≤ 9223372036854775807) (hk : okB bs.length a n = false) :
    Calls Try.prog 13 #[.pointer (some ⟨p, 0, none⟩), .int .u64 a, .int .i64 n, .int .u64 x] w (rWrote w p g bs false) := by
  by_cases hw : widB n = true
  · have hh : hasB bs.length a n = false := by simpa [okB, hw] using hk
    go_enter Try.func13, Try.ntmps13
    go_wp2_with (first | (go_at_call 25; refine (rsize_c _ hn _).mono ?_; rintro e w' ⟨rfl, rfl⟩) | (go_at_call 20; refine (rHas_c p g bs _ _ _ h ha hn).mono ?_; rintro e w' ⟨rfl, rfl⟩))
    go_ret
    exact ⟨rfl, h, gr_refl _ _⟩
  · have hw : widB n = false := by simpa using hw
    go_enter Try.func13, Try.ntmps13
    go_wp2_with (first | (go_at_call 25; refine (rsize_c _ hn _).mono ?_; rintro e w' ⟨rfl, rfl⟩) | (go_at_call 20; refine (rHas_c p g bs _ _ _ h ha hn).mono ?_; rintro e w' ⟨rfl, rfl⟩))
    go_ret
    exact ⟨rfl, h, gr_refl _ _⟩

set_option maxHeartbeats 400000 in
theorem rPut_yes (p g : Nat) (bs : List Int) (a n x : Int) (w : World) (h : QAt w p g bs) (ha : 0 ≤ a ∧ a ≤ 18446744073709551615) (hx : 0 ≤ x ∧ x ≤ 18446744073709551615) (hk : okB bs.length a n = true) :
    Calls Try.prog 13 #[.pointer (some ⟨p, 0, none⟩), .int .u64 a, .int .i64 n, .int .u64 x] w (rWrote w p g (splice bs (offV a) (toB n.toNat x)) true) := by
  obtain ⟨hw, hh⟩ := ok_of hk
  have hn := wid_of hw
  have ho := has_off hh
  obtain ⟨m, rfl⟩ : ∃ m : Nat, n = m := ⟨n.toNat, by omega⟩
  rw [Int.toNat_natCast] at ho ⊢
  obtain ⟨f, hf⟩ : ∃ f, f = offV a := ⟨_, rfl⟩
  rw [← hf] at ho ⊢
  obtain rfl : a = 2147483648 + (f : Int) := by omega
  replace ho := ho.2
  have hl := h.len
  have HF := Lib.hid hf
  clear hk hf
  go_enter Try.func13, Try.ntmps13
  go_wp2_with (first | (go_at_call 25; refine (rsize_c _ (by omega) _).mono ?_; rintro e w' ⟨rfl, rfl⟩) | (go_at_call 20; refine (rHas_c p g bs _ _ _ h ha (by omega)).mono ?_; rintro e w' ⟨rfl, rfl⟩))
  go_loopw [3, 10] (fun y i wr => ∃ k : Nat, k ≤ m ∧ i = .int .i64 k ∧ y = .int .u64 (x / 256 ^ k) ∧ QAt wr p g (splice bs f (toB k x)) ∧ w.grownBy wr (some g)) (fun _ i _ => m - (intOf i).toNat)
  case atStart => exact ⟨0, Nat.zero_le _, rfl, by simp, by rw [toB, splice_nil]; exact h, gr_refl _ _⟩
  case round =>
    obtain ⟨k, hk, rfl, rfl, hA, hG⟩ := hrel
    have hlen : (splice bs f (toB k x)).length = bs.length := splice_length _ _ _ (by rw [toB_length]; omega)
    have hcd := hA.head
    rw [hlen] at hcd
    by_cases hlt : k < m
    · obtain ⟨b, hb⟩ : ∃ b, b = (splice bs f (toB k x)).getD (f + k) 0 := ⟨_, rfl⟩
      have hcell := hA.cell (i := f + k) (by omega)
      rw [← hb] at hcell
      have hfree := hA.row.free (f + k)
      have hset := hA.set (by decide) (i := f + k) (b := x / 256 ^ k % 256) (by omega) (by omega)
      rw [show (splice bs f (toB k x)).set (f + k) (x / 256 ^ k % 256) = splice bs f (toB (k + 1) x) from by
        rw [toB_snoc, splice_snoc _ _ _ _ (by rw [toB_length]; omega), toB_length]] at hset
      have hp := p256 k
      obtain ⟨y, hy⟩ : ∃ y, y = x / 256 ^ k := ⟨_, rfl⟩
      have hyb : 0 ≤ y ∧ y ≤ 18446744073709551615 := by
        rw [hy]; exact ⟨Int.ediv_nonneg hx.1 (by omega), by have := Int.ediv_le_self (256 ^ k) hx.1; omega⟩
      have hnx : x / 256 ^ (k + 1) = y / 256 := by rw [hy, Int.pow_succ, Int.ediv_ediv_of_nonneg (by omega)]
      rw [← hy] at hset ⊢
      have hff : f + k < bs.length := by omega
      have hif : (((2147483648 : Int) + f - 2147483648) + k).toNat = f + k := by omega
      have HSET := Lib.hid hset
      have HNX := Lib.hid hnx
      clear hb hlen hset hy hnx hp
      go_wp2
      go_roundw
      case rel => exact ⟨k + 1, by omega, by go_num, by rw [HNX.out], by exact HSET.out, gr_set hG _⟩
      case measure => simp [intOf]; omega
    · obtain rfl : k = m := by omega
      clear hlen
      go_wp2
      go_ret
      exact ⟨rfl, hA, hG⟩

theorem rPut_c (p g : Nat) (bs : List Int) (a n x : Int) (w : World) (h : QAt w p g bs) (ha : 0 ≤ a ∧ a ≤ 18446744073709551615) (hn : -9223372036854775808 ≤ n ∧ n ≤ 9223372036854775807) (hx : 0 ≤ x ∧ x ≤ 18446744073709551615) :
    Calls Try.prog 13 #[.pointer (some ⟨p, 0, none⟩), .int .u64 a, .int .i64 n, .int .u64 x] w (rWrote w p g (putV bs a n x) (okB bs.length a n)) := by
  cases hk : okB bs.length a n
  · have := rPut_no p g bs a n x w h ha hn hk
    simpa [putV, hk] using this
  · have := rPut_yes p g bs a n x w h ha hx hk
    simpa [putV, hk] using this

set_option maxHeartbeats 400000 in
theorem rLoad_no (p g : Nat) (bs : List Int) (a : Int) (A : Option Addr) (m c : Nat) (w : World) (h : QAt w p g bs) (ha : 0 ≤ a ∧ a ≤ 18446744073709551615) (hm : m ≤ 9223372036854775807) (hh : hasB bs.length a m = false) :
    Calls Try.prog 16 #[.pointer (some ⟨p, 0, none⟩), .int .u64 a, .slice A m c] w (rWrote w p g bs false) := by
  go_enter Try.func16, Try.ntmps16
  go_wp2_with (go_at_call 20; refine (rHas_c p g bs _ _ _ h ha (by omega)).mono ?_; rintro e w' ⟨rfl, rfl⟩)
  go_ret
  exact ⟨rfl, h, gr_refl _ _⟩

set_option maxHeartbeats 1000000 in
theorem rLoad_yes (p g : Nat) (bs : List Int) (a : Int) (B : Nat) (A : Option Addr) (m c : Nat) (zs : List Int) (w : World) (h : QAt w p g bs) (hz : Shows w B A m zs) (hB : B ≤ g) (hBs : B ≤ w.heap.size) (ha : 0 ≤ a ∧ a ≤ 18446744073709551615) (hh : hasB bs.length a m = true) :
    Calls Try.prog 16 #[.pointer (some ⟨p, 0, none⟩), .int .u64 a, .slice A m c] w (rWrote w p g (splice bs (offV a) zs) true) := by
  have ho := has_off hh
  rw [Int.toNat_natCast] at ho
  obtain ⟨f, hf⟩ : ∃ f, f = offV a := ⟨_, rfl⟩
  have h2 := (has_of hh).2.1
  rw [← hf] at ho ⊢
  obtain rfl : a = 2147483648 + (f : Int) := by omega
  replace ho := ho.2
  have hl := h.len
  have HF := Lib.hid hf
  have HZL := Lib.hid hz.1
  clear hf
  go_enter Try.func16, Try.ntmps16
  go_wp2_with (go_at_call 20; refine (rHas_c p g bs _ _ _ h ha (by omega)).mono ?_; rintro e w' ⟨rfl, rfl⟩)
  go_loopw [8] (fun i wr => ∃ k : Nat, k ≤ m ∧ i = .int .i64 k ∧ QAt wr p g (splice bs f (zs.take k)) ∧ w.grownBy wr (some g)) (fun i _ => m - (intOf i).toNat)
  case atStart => exact ⟨0, Nat.zero_le _, rfl, by rw [List.take_zero, splice_nil]; exact h, gr_refl _ _⟩
  case round =>
    obtain ⟨k, hk, rfl, hA, hG⟩ := hrel
    have htl : (zs.take k).length = k := by rw [List.length_take, HZL.out]; omega
    have hlen : (splice bs f (zs.take k)).length = bs.length := splice_length _ _ _ (by rw [htl]; omega)
    have hcd := hA.head
    rw [hlen] at hcd
    by_cases hlt : k < m
    · have hkz : k < zs.length := by rw [HZL.out]; exact hlt
      obtain ⟨b, hb⟩ : ∃ b, b = (splice bs f (zs.take k)).getD (f + k) 0 := ⟨_, rfl⟩
      have hcell := hA.cell (i := f + k) (by omega)
      rw [← hb] at hcell
      have hfree := hA.row.free (f + k)
      obtain ⟨ad, rfl, hadb, hsrc⟩ := hz.2.2 (by omega)
      have hz1 := hsrc k hlt
      replace hz1 := hG.cell hz1 (some_ne (by rw [add_block]; omega))
      have hzb := hz.2.1 (zs.getD k 0) (by rw [List.getD, List.getElem?_eq_getElem hkz]; simp)
      have htk : zs.take (k + 1) = zs.take k ++ [zs.getD k 0] := take_snoc _ _ hkz
      obtain ⟨z, hzz⟩ : ∃ z, z = zs.getD k 0 := ⟨_, rfl⟩
      rw [← hzz] at hz1 hzb htk
      have hset := hA.set (by decide) (i := f + k) (b := z) (by omega) hzb
      rw [show (splice bs f (zs.take k)).set (f + k) z = splice bs f (zs.take (k + 1)) from by
        rw [htk, splice_snoc _ _ _ _ (by rw [htl]; omega), htl]] at hset
      have hff : f + k < bs.length := by omega
      have hif : (((2147483648 : Int) + f - 2147483648) + k).toNat = f + k := by omega
      have hw1 : IntKind.u64.wrap ((2147483648 : Int) + f - 2147483648) = f := by rw [IntKind.wrap_u64]; omega
      have hw2 : IntKind.i64.wrap ((f : Int) + k) = (f : Int) + k := IntWalk.i64_in _ (by omega)
      have hw3 : ((f : Int) + k).toNat = f + k := by omega
      have HSET := Lib.hid hset
      clear hb hlen htl hset hzz htk
      go_wp2_with fail
      go_region
      all_goals (try go_wp2)
      all_goals
        go_roundw
        case rel => exact ⟨k + 1, by omega, by go_num, HSET.out.drew, gr_drew (gr_set hG _)⟩
        case measure => simp [intOf]; omega
    · obtain rfl : k = m := by omega
      have hall : zs.take k = zs := List.take_of_length_le (by rw [HZL.out]; exact Nat.le_refl _)
      rw [hall] at hA
      clear hlen htl hall
      go_wp2
      go_ret
      exact ⟨rfl, hA, hG⟩

theorem rLoad_c (p g : Nat) (bs : List Int) (a : Int) (B : Nat) (A : Option Addr) (m c : Nat) (zs : List Int) (w : World) (h : QAt w p g bs) (hz : Shows w B A m zs) (hB : B ≤ g) (hBs : B ≤ w.heap.size) (hm : m ≤ 9223372036854775807) (ha : 0 ≤ a ∧ a ≤ 18446744073709551615) :
    Calls Try.prog 16 #[.pointer (some ⟨p, 0, none⟩), .int .u64 a, .slice A m c] w (rWrote w p g (loadV bs a zs) (hasB bs.length a zs.length)) := by
  have hl := hz.1
  cases hh : hasB bs.length a zs.length
  · rw [hl] at hh
    have := rLoad_no p g bs a A m c w h ha hm hh
    simpa [loadV, hl, hh] using this
  · rw [hl] at hh
    have := rLoad_yes p g bs a B A m c zs w h hz hB hBs ha hh
    simpa [loadV, hl, hh] using this

set_option maxHeartbeats 400000 in
theorem rBytes_no (p g : Nat) (bs : List Int) (a n : Int) (w : World) (h : QAt w p g bs) (ha : 0 ≤ a ∧ a ≤ 18446744073709551615) (hn : -9223372036854775808 ≤ n ∧ n ≤ 9223372036854775807) (hh : hasB bs.length a n = false) :
    Calls Try.prog 18 #[.pointer (some ⟨p, 0, none⟩), .int .u64 a, .int .i64 n] w fun e w' => e = .returned (.tuple #[.slice none 0 0, .bool false]) ∧ w = w' := by
  go_enter Try.func18, Try.ntmps18
  go_wp2_with (go_at_call 20; refine (rHas_c p g bs _ _ _ h ha hn).mono ?_; rintro e w' ⟨rfl, rfl⟩)
  go_ret2
  exact ⟨rfl, rfl⟩

def rTold (w : World) (cs : List Int) (e : Ending) (w' : World) : Prop :=
  ∃ (A : Option Addr) (c : Nat), e = .returned (.tuple #[.slice A cs.length c, .bool true]) ∧ Shows w' w'.heap.size A cs.length cs ∧ w.grownBy w' none
/-- What a row of the call's own shows. -/
theorem own_shows {w : World} {base : Nat} {e : TypeId} {v : Value} {n : Nat} {X : List Int} (h : w.ownsRow base e 1 v n (vals X)) (hX : Byt X) (hn : X.length = n) : ∃ (A : Option Addr) (c : Nat), v = .slice A n c ∧ Shows w w.heap.size A n X := by
  rcases h.2 with ⟨rfl, rfl⟩ | ⟨g', cap, cur, rfl, _, hh, hnc, _, hcs, htk⟩
  · exact ⟨none, 0, rfl, hn, hX, fun h => absurd h (by omega)⟩
  · refine ⟨_, cap, rfl, hn, hX, fun _ => ⟨_, rfl, (Array.getElem?_eq_some_iff.1 hh).1, fun j hj => ?_⟩⟩
    have he : (⟨g', 0, none⟩ : Addr).add j = ⟨g', j, none⟩ := by unfold Addr.add; split <;> simp_all
    rw [he]
    have h1 : w.cell? ⟨g', j, none⟩ = cur[j]? := by simp [World.cell?, hh]
    have h2 : cur[j]? = (vals X)[j]? := by
      rw [← htk, Nat.mul_one, List.getElem?_take_of_lt hj, Array.getElem?_toList]
    rw [h1, h2, vals_get, List.getElem?_eq_getElem (by omega)]
    simp [List.getD, List.getElem?_eq_getElem (show j < X.length by omega)]
set_option maxHeartbeats 400000 in
theorem rBytes_yes (p g : Nat) (bs : List Int) (a n : Int) (w : World) (h : QAt w p g bs) (ha : 0 ≤ a ∧ a ≤ 18446744073709551615) (hh : hasB bs.length a n = true) :
    Calls Try.prog 18 #[.pointer (some ⟨p, 0, none⟩), .int .u64 a, .int .i64 n] w (rTold w ((bs.drop (offV a)).take n.toNat)) := by
  have ho := has_off hh
  have hl := h.len
  have h0 := has_of hh
  obtain ⟨m, rfl⟩ : ∃ m : Nat, n = m := ⟨n.toNat, by omega⟩
  rw [Int.toNat_natCast] at ho ⊢
  obtain ⟨f, hf⟩ : ∃ f, f = offV a := ⟨_, rfl⟩
  rw [← hf] at ho ⊢
  obtain rfl : a = 2147483648 + (f : Int) := by omega
  replace ho := ho.2
  obtain ⟨X, hX⟩ : ∃ X, X = (bs.drop f).take m := ⟨_, rfl⟩
  have hXl : X.length = m := by rw [hX, List.length_take, List.length_drop]; omega
  have hXb : Byt X := by rw [hX]; exact take_byt (drop_byt h.byt _) _
  rw [← hX]
  have hk1 : QAt (w.alloc (.cells #[] 5)) p g bs := h.kept (gr_alloc (gr_refl _ _) _)
  have hcd := hk1.head
  have hsrc : ∀ o' : Nat, (0 < m → o' = f) → ∀ j u, (vals X)[j]? = some u → (w.alloc (.cells #[] 5)).cell? ((⟨g, o', none⟩ : Addr).add j) = some u := by
    intro o' ho' j u hu
    rw [vals_get] at hu
    obtain ⟨b, hb, rfl⟩ := Option.map_eq_some_iff.1 hu
    have hj : j < m := by have := (List.getElem?_eq_some_iff.1 hb).1; omega
    rw [ho' (by omega), addr_add, hk1.row.cell, vals_get]
    rw [hX, List.getElem?_take_of_lt hj, List.getElem?_drop] at hb
    rw [hb]; rfl
  have hown : (w.alloc (.cells #[] 5)).ownsRow w.heap.size 5 1 (.slice (some ⟨w.heap.size, 0, none⟩) 0 0) 0 [] :=
    ⟨by simp, .inr ⟨w.heap.size, 0, #[], rfl, Nat.le_refl _, Row.fresh w _ [], Nat.le_refl _, Nat.zero_le _, rfl, rfl⟩⟩
  have hsub : (2147483648 : Int) + f - 2147483648 = f := by omega
  have HF := Lib.hid hf
  have HXL := Lib.hid hXl
  have HX := Lib.hid hX
  have HSRC := Lib.hid hsrc
  have fin : ∀ v1 w1, w1.ownsRow w.heap.size 5 1 v1 (0 + m) ([] ++ vals X) → (w.alloc (.cells #[] 5)).grownBy w1 (some w.heap.size) → rTold w X (.returned (.tuple #[v1, .bool true])) w1 := by
    intro v1 w1 ho1 hg1
    rw [Nat.zero_add, List.nil_append] at ho1
    obtain ⟨A, c, rfl, hs⟩ := own_shows ho1 hXb hXl
    refine ⟨A, c, by rw [hXl], by rw [hXl]; exact hs, ?_⟩
    exact gr_row (gr_trans (gr_alloc (gr_refl w _) _) hg1) (Nat.le_refl _)
  have FIN := Lib.hid fin
  clear hf h0 hX hXl hsrc fin
  obtain ⟨i0, hi0, hz0, hz1, hz2⟩ := info_parts u8_info
  by_cases hfe : bs.length = f
  · obtain rfl : m = 0 := by omega
    have hh0 : hasB f (2147483648 + (f : Int)) 0 = true := by have := hh; rwa [hfe] at this
    have hfin := FIN.out (.slice (some ⟨w.heap.size, 0, none⟩) 0 0) _ (by
      have hn : X = [] := List.eq_nil_of_length_eq_zero HXL.out
      rw [hn]; exact hown) (gr_refl _ _)
    have HFIN := Lib.hid hfin
    clear hfin hown
    go_enter Try.func18, Try.ntmps18
    go_wp2_with (first | (go_at_call 20; refine (rHas_c p g bs _ _ _ h ha (by omega)).mono ?_; rintro e w' ⟨rfl, rfl⟩))
    go_ret2
    exact HFIN.out
  · go_enter Try.func18, Try.ntmps18
    go_wp2_with (first | (go_at_call 20; refine (rHas_c p g bs _ _ _ h ha (by omega)).mono ?_; rintro e w' ⟨rfl, rfl⟩) | (at_builtin; refine wpList_append_own _ rfl (.tmp 19) (.tmp 28) 32 rfl w.heap.size 5 i0 (.int .u8 0) 1 1 Try.underlying32 hi0 hz0 hz1 hz2 rfl (by decide) (.slice (some ⟨w.heap.size, 0, none⟩) 0 0) 0 [] rfl hown ⟨g, f, none⟩ m (bs.length - f) (vals X) (by show Value.slice (some ⟨g, f, none⟩) (f + m - f) (bs.length - f) = _; rw [Nat.add_sub_cancel_left]) (by rw [vals_length, HXL.out, Nat.mul_one]) (HSRC.out f (fun _ => rfl)) (vals_one _) (by unfold maxLen; omega) (by omega) (by simp) ?_; intro v1 w1 hown1 hg1 hat1; have HO1 := Lib.hid hown1; have HG1 := Lib.hid hg1; clear hown1 hg1 hat1))
    go_ret2
    exact FIN.out _ _ HO1.out HG1.out
end Go.Proofs.Ytcikjjfmnogjhaa
