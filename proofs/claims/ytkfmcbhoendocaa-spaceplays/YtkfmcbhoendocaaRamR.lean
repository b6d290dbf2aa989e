/-
  What each function of the document's own answer for layer 2 does: contracts over the program's translation.
  Conditions: the arguments are numbers of their kinds; memory stands as 'At' says.
-/
import Derived.Test.YtkfmcbhoendocaaRamC
import Derived.Deep.RegionWith
import Derived.IntWalk
namespace Go.Proofs.Ytkfmcbhoendocaa
open Go Go.RowKit M
set_option linter.unusedVariables false

abbrev QAt := At 99 5

set_option maxHeartbeats 400000 in
theorem rsize_c (n : Int) (hn : -9223372036854775808 ≤ n ∧ n ≤ 9223372036854775807) (w : World) :
    Calls Try.prog 79 #[.int .i64 n] w fun e w' => e = .returned (.bool (widB n)) ∧ w = w' := by
  go_enter Try.func79, Try.ntmps79
  go_wp2
  all_goals
    go_ret
    exact ⟨ret_bool (by rw [Bool.eq_iff_iff]; simp [widB]; try omega), rfl⟩

set_option maxHeartbeats 400000 in
theorem rHas_c (p g : Nat) (bs : List Int) (a n : Int) (w : World) (h : QAt w p g bs) (ha : 0 ≤ a ∧ a ≤ 18446744073709551615) (hn : -9223372036854775808 ≤ n ∧ n ≤ 9223372036854775807) :
    Calls Try.prog 78 #[.pointer (some ⟨p, 0, none⟩), .int .u64 a, .int .i64 n] w fun e w' => e = .returned (.bool (hasB bs.length a n)) ∧ w = w' := by
  have hc := h.head
  have hl := h.len
  clear h
  go_enter Try.func78, Try.ntmps78
  go_wp2
  all_goals
    go_ret
    exact ⟨ret_bool (by rw [Bool.eq_iff_iff]; simp [hasB]; try omega), rfl⟩

set_option maxHeartbeats 400000 in
theorem rNew_no (n : Int) (hn : -9223372036854775808 ≤ n ∧ n ≤ 9223372036854775807) (h : n < 1 ∨ 16 < n) (w : World) :
    Calls Try.prog 52 #[.int .i64 n] w fun e w' => e = .returned (.tuple #[.pointer (some ⟨w.heap.size, 0, none⟩), .int .i64 1]) ∧ w.grownBy w' none := by
  rcases h with h | h
  all_goals
    go_enter Try.func52, Try.ntmps52
    go_wp2
    go_ret2
    exact ⟨rfl, gr_alloc (gr_refl _ _) _⟩

def rMade (q : Nat) (w : World) (e : Ending) (w' : World) : Prop :=
  e = .returned (.tuple #[.pointer (some ⟨w.heap.size + 1, 0, none⟩), .int .i64 0]) ∧ QAt w' (w.heap.size + 1) w.heap.size (List.replicate (q * 4096) 0) ∧ w.grownBy w' none
set_option maxHeartbeats 400000 in
theorem rNew_yes (q : Nat) (h1 : 1 ≤ q) (h2 : q ≤ 16) (w : World) : Calls Try.prog 52 #[.int .i64 q] w (rMade q w) := by
  have hmk : ∀ W : World, (Instr.makeSlice 95 (.int .i64 ((q : Int) * 4096)) (.int .i64 ((q : Int) * 4096))).run Try.prog W = .ok (.slice (some ⟨W.heap.size, 0, none⟩) (q * 4096) (q * 4096)) (W.alloc (.cells (vals (List.replicate (q * 4096) 0)).toArray 5)) := by
    intro W
    simpa using make_u8 (q * 4096) (by omega) W
  go_enter Try.func52, Try.ntmps52
  go_wp2
  go_ret2
  refine ⟨rfl, ⟨?_, ?_, ?_, by simp; omega⟩, gr_alloc (gr_alloc (gr_refl _ _) _) _⟩
  · have := Row.fresh (w.alloc (.cells (vals (List.replicate (q * 4096) 0)).toArray 5)) 99 [.slice (some ⟨w.heap.size, 0, none⟩) (q * 4096) (q * 4096)]
    simpa using this
  · exact (Row.fresh w 5 _).alloc _
  · intro b hb
    rw [List.eq_of_mem_replicate hb]; omega

set_option maxHeartbeats 400000 in
theorem rGet_no (p g : Nat) (bs : List Int) (a n : Int) (w : World) (h : QAt w p g bs) (ha : 0 ≤ a ∧ a ≤ 18446744073709551615) (hn : -9223372036854775808 ≤ n ∧ n ≤ 9223372036854775807) (hk : okB bs.length a n = false) :
    Calls Try.prog 85 #[.pointer (some ⟨p, 0, none⟩), .int .u64 a, .int .i64 n] w fun e w' => e = .returned (.tuple #[.int .u64 0, .bool false]) ∧ w = w' := by
  by_cases hw : widB n = true
  · have hh : hasB bs.length a n = false := by simpa [okB, hw] using hk
    go_enter Try.func85, Try.ntmps85
    go_wp2_with (first | (go_at_call 79; refine (rsize_c _ hn _).mono ?_; rintro e w' ⟨rfl, rfl⟩) | (go_at_call 78; refine (rHas_c p g bs _ _ _ h ha hn).mono ?_; rintro e w' ⟨rfl, rfl⟩))
    go_ret2
    exact ⟨rfl, rfl⟩
  · have hw : widB n = false := by simpa using hw
    go_enter Try.func85, Try.ntmps85
    go_wp2_with (first | (go_at_call 79; refine (rsize_c _ hn _).mono ?_; rintro e w' ⟨rfl, rfl⟩) | (go_at_call 78; refine (rHas_c p g bs _ _ _ h ha hn).mono ?_; rintro e w' ⟨rfl, rfl⟩))
    go_ret2
    exact ⟨rfl, rfl⟩

set_option maxHeartbeats 400000 in
theorem rGet_yes (p g : Nat) (bs : List Int) (a n : Int) (w : World) (h : QAt w p g bs) (ha : 0 ≤ a ∧ a ≤ 18446744073709551615) (hk : okB bs.length a n = true) :
    Calls Try.prog 85 #[.pointer (some ⟨p, 0, none⟩), .int .u64 a, .int .i64 n] w fun e w' => e = .returned (.tuple #[.int .u64 (leV ((bs.drop (offV a)).take n.toNat)), .bool true]) ∧ w = w' := by
  obtain ⟨hw, hh⟩ := ok_of hk
  have hn := wid_of hw
  have ho := has_off hh
  obtain ⟨m, rfl⟩ : ∃ m : Nat, n = m := ⟨n.toNat, by omega⟩
  rw [Int.toNat_natCast] at ho ⊢
  obtain ⟨f, hf⟩ : ∃ f, f = offV a := ⟨_, rfl⟩
  rw [← hf] at ho ⊢
  obtain rfl : a = 2147483648 + (f : Int) := by omega
  replace ho := ho.2
  have hl := h.len
  have hcd := h.head
  have hc : ∀ k, k < m → w.cell? ⟨g, f + k, none⟩ = some (.int .u8 (bs.getD (f + k) 0)) := fun k hk => h.cell (by omega)
  have hs : ∀ k, k < m → 0 ≤ bs.getD (f + k) 0 ∧ bs.getD (f + k) 0 ≤ 255 ∧ (0 ≤ leV ((bs.drop (f + (k + 1))).take (m - (k + 1))) ∧ leV ((bs.drop (f + (k + 1))).take (m - (k + 1))) < 72057594037927936) ∧
      leV ((bs.drop (f + k)).take (m - k)) = bs.getD (f + k) 0 + 256 * leV ((bs.drop (f + (k + 1))).take (m - (k + 1))) := by
    intro k hk
    have hbk := h.byt (bs.getD (f + k) 0) (by
      rw [List.getD, List.getElem?_eq_getElem (show f + k < bs.length by omega)]; simp)
    have hbd := leV_bd _ (take_byt (drop_byt h.byt (f + (k + 1))) (m - (k + 1)))
    have hle : (256 : Int) ^ ((bs.drop (f + (k + 1))).take (m - (k + 1))).length ≤ 256 ^ 7 := p256_le (by rw [List.length_take]; omega)
    refine ⟨hbk.1, hbk.2, ⟨hbd.1, by omega⟩, ?_⟩
    rw [List.drop_eq_getElem_cons (show f + k < bs.length by omega), show m - k = (m - (k + 1)) + 1 from by omega, List.take_succ_cons, leV, Nat.add_assoc]
    simp [List.getD, List.getElem?_eq_getElem (show f + k < bs.length by omega)]
  have HC := Lib.hid hc
  have HS := Lib.hid hs
  have HF := Lib.hid hf
  clear hc hk hs hf
  go_enter Try.func85, Try.ntmps85
  go_wp2_with (first | (go_at_call 79; refine (rsize_c _ (by omega) _).mono ?_; rintro e w' ⟨rfl, rfl⟩) | (go_at_call 78; refine (rHas_c p g bs _ _ _ h ha (by omega)).mono ?_; rintro e w' ⟨rfl, rfl⟩))
  go_loop [9, 10] (fun x i => ∃ k : Nat, k ≤ m ∧ i = .int .i64 ((k : Int) - 1) ∧ x = .int .u64 (leV ((bs.drop (f + k)).take (m - k)))) (fun _ i => (intOf i + 1).toNat)
  case atStart => exact ⟨m, Nat.le_refl _, rfl, by rw [Nat.sub_self]; rfl⟩
  case round =>
    obtain ⟨k, hk, rfl, rfl⟩ := hrel
    cases k with
    | zero =>
      rw [show ((0 : Nat) : Int) - 1 = -1 from rfl]
      go_wp2
      go_ret2
      exact ⟨rfl, rfl⟩
    | succ j =>
      rw [show ((j + 1 : Nat) : Int) - 1 = j from by omega]
      have hcell := HC.out j (by omega)
      obtain ⟨hb0, hb1, hx, hst⟩ := HS.out j (by omega)
      obtain ⟨b, hb⟩ : ∃ b, b = bs.getD (f + j) 0 := ⟨_, rfl⟩
      rw [← hb] at hcell hb0 hb1 hst
      obtain ⟨y, hy⟩ : ∃ y, y = leV ((bs.drop (f + (j + 1))).take (m - (j + 1))) := ⟨_, rfl⟩
      rw [← hy] at hx hst ⊢
      have hff : f + j < bs.length := by omega
      have hif : (((2147483648 : Int) + f - 2147483648) + j).toNat = f + j := by omega
      have HST := Lib.hid hst
      clear hb hst hy
      go_wp2
      go_round
      case rel => exact ⟨j, by omega, rfl, by rw [HST.out, Int.mul_comm y 256, Int.add_comm]⟩
      case measure => simp [intOf]

theorem rGet_c (p g : Nat) (bs : List Int) (a n : Int) (w : World) (h : QAt w p g bs) (ha : 0 ≤ a ∧ a ≤ 18446744073709551615) (hn : -9223372036854775808 ≤ n ∧ n ≤ 9223372036854775807) :
    Calls Try.prog 85 #[.pointer (some ⟨p, 0, none⟩), .int .u64 a, .int .i64 n] w fun e w' => e = .returned (.tuple #[.int .u64 (getV bs a n), .bool (okB bs.length a n)]) ∧ w = w' := by
  cases hk : okB bs.length a n
  · have := rGet_no p g bs a n w h ha hn hk
    simpa [getV, hk] using this
  · have := rGet_yes p g bs a n w h ha hk
    simpa [getV, hk] using this

def rWrote (w : World) (p g : Nat) (cs : List Int) (v : Bool) (e : Ending) (w' : World) : Prop :=
  e = .returned (.bool v) ∧ QAt w' p g cs ∧ w.grownBy w' (some g)

set_option maxHeartbeats 400000 in
theorem rPut_no (p g : Nat) (bs : List Int) (a n x : Int) (w : World) (h : QAt w p g bs) (ha : 0 ≤ a ∧ a ≤ 18446744073709551615) (hn : -9223372036854775808 ≤ n ∧ n ≤ 9223372036854775807) (hk : okB bs.length a n = false) :
    Calls Try.prog 31 #[.pointer (some ⟨p, 0, none⟩), .int .u64 a, .int .i64 n, .int .u64 x] w (rWrote w p g bs false) := by
  by_cases hw : widB n = true
  · have hh : hasB bs.length a n = false := by simpa [okB, hw] using hk
    go_enter Try.func31, Try.ntmps31
    go_wp2_with (first | (go_at_call 79; refine (rsize_c _ hn _).mono ?_; rintro e w' ⟨rfl, rfl⟩) | (go_at_call 78; refine (rHas_c p g bs _ _ _ h ha hn).mono ?_; rintro e w' ⟨rfl, rfl⟩))
    go_ret
    exact ⟨rfl, h, gr_refl _ _⟩
  · have hw : widB n = false := by simpa using hw
    go_enter Try.func31, Try.ntmps31
    go_wp2_with (first | (go_at_call 79; refine (rsize_c _ hn _).mono ?_; rintro e w' ⟨rfl, rfl⟩) | (go_at_call 78; refine (rHas_c p g bs _ _ _ h ha hn).mono ?_; rintro e w' ⟨rfl, rfl⟩))
    go_ret
    exact ⟨rfl, h, gr_refl _ _⟩

set_option maxHeartbeats 400000 in
theorem rPut_yes (p g : Nat) (bs : List Int) (a n x : Int) (w : World) (h : QAt w p g bs) (ha : 0 ≤ a ∧ a ≤ 18446744073709551615) (hx : 0 ≤ x ∧ x ≤ 18446744073709551615) (hk : okB bs.length a n = true) :
    Calls Try.prog 31 #[.pointer (some ⟨p, 0, none⟩), .int .u64 a, .int .i64 n, .int .u64 x] w (rWrote w p g (splice bs (offV a) (toB n.toNat x)) true) := by
  obtain ⟨hw, hh⟩ := ok_of hk
  have hn := wid_of hw
  have ho := has_off hh
  obtain ⟨m, rfl⟩ : ∃ m : Nat, n = m := ⟨n.toNat, by omega⟩
  rw [Int.toNat_natCast] at ho ⊢
  obtain ⟨f, hf⟩ : ∃ f, f = offV a := ⟨_, rfl⟩
  rw [← hf] at ho ⊢
  obtain rfl : a = 2147483648 + (f : Int) := by omega
  replace ho := ho.2
  have hl := h.len
  have HF := Lib.hid hf
  clear hk hf
  go_enter Try.func31, Try.ntmps31
  go_wp2_with (first | (go_at_call 79; refine (rsize_c _ (by omega) _).mono ?_; rintro e w' ⟨rfl, rfl⟩) | (go_at_call 78; refine (rHas_c p g bs _ _ _ h ha (by omega)).mono ?_; rintro e w' ⟨rfl, rfl⟩))
  go_loopw [3, 10] (fun y i wr => ∃ k : Nat, k ≤ m ∧ i = .int .i64 k ∧ y = .int .u64 (x / 256 ^ k) ∧ QAt wr p g (splice bs f (toB k x)) ∧ w.grownBy wr (some g)) (fun _ i _ => m - (intOf i).toNat)
  case atStart => exact ⟨0, Nat.zero_le _, rfl, by simp, by rw [toB, splice_nil]; exact h, gr_refl _ _⟩
  case round =>
    obtain ⟨k, hk, rfl, rfl, hA, hG⟩ := hrel
    have hlen : (splice bs f (toB k x)).length = bs.length := splice_length _ _ _ (by rw [toB_length]; omega)
    have hcd := hA.head
    rw [hlen] at hcd
    by_cases hlt : k < m
    · obtain ⟨b, hb⟩ : ∃ b, b = (splice bs f (toB k x)).getD (f + k) 0 := ⟨_, rfl⟩
      have hcell := hA.cell (i := f + k) (by omega)
      rw [← hb] at hcell
      have hfree := hA.row.free (f + k)
      have hset := hA.set (by decide) (i := f + k) (b := x / 256 ^ k % 256) (by omega) (by omega)
      rw [show (splice bs f (toB k x)).set (f + k) (x / 256 ^ k % 256) = splice bs f (toB (k + 1) x) from by
        rw [toB_snoc, splice_snoc _ _ _ _ (by rw [toB_length]; omega), toB_length]] at hset
      have hp := p256 k
      obtain ⟨y, hy⟩ : ∃ y, y = x / 256 ^ k := ⟨_, rfl⟩
      have hyb : 0 ≤ y ∧ y ≤ 18446744073709551615 := by
        rw [hy]; exact ⟨Int.ediv_nonneg hx.1 (by omega), by have := Int.ediv_le_self (256 ^ k) hx.1; omega⟩
      have hnx : x / 256 ^ (k + 1) = y / 256 := by rw [hy, Int.pow_succ, Int.ediv_ediv_of_nonneg (by omega)]
      rw [← hy] at hset ⊢
      have hff : f + k < bs.length := by omega
      have hif : (((2147483648 : Int) + f - 2147483648) + k).toNat = f + k := by omega
      have HSET := Lib.hid hset
      have HNX := Lib.hid hnx
      clear hb hlen hset hy hnx hp
      go_wp2
      go_roundw
      case rel => exact ⟨k + 1, by omega, by go_num, by rw [HNX.out], by exact HSET.out, gr_set hG _⟩
      case measure => simp [intOf]; omega
    · obtain rfl : k = m := by omega
      clear hlen
      go_wp2
      go_ret
      exact ⟨rfl, hA, hG⟩

theorem rPut_c (p g : Nat) (bs : List Int) (a n x : Int) (w : World) (h : QAt w p g bs) (ha : 0 ≤ a ∧ a ≤ 18446744073709551615) (hn : -9223372036854775808 ≤ n ∧ n ≤ 9223372036854775807) (hx : 0 ≤ x ∧ x ≤ 18446744073709551615) :
    Calls Try.prog 31 #[.pointer (some ⟨p, 0, none⟩), .int .u64 a, .int .i64 n, .int .u64 x] w (rWrote w p g (putV bs a n x) (okB bs.length a n)) := by
  cases hk : okB bs.length a n
  · have := rPut_no p g bs a n x w h ha hn hk
    simpa [putV, hk] using this
  · have := rPut_yes p g bs a n x w h ha hx hk
    simpa [putV, hk] using this

def rTold (w : World) (cs : List Int) (e : Ending) (w' : World) : Prop :=
  ∃ (A : Option Addr) (c : Nat), e = .returned (.tuple #[.slice A cs.length c, .bool true]) ∧ Shows w' w'.heap.size A cs.length cs ∧ w.grownBy w' none
/-- What a row of the call's own shows. -/
theorem own_shows {w : World} {base : Nat} {e : TypeId} {v : Value} {n : Nat} {X : List Int} (h : w.ownsRow base e 1 v n (vals X)) (hX : Byt X) (hn : X.length = n) : ∃ (A : Option Addr) (c : Nat), v = .slice A n c ∧ Shows w w.heap.size A n X := by
  rcases h.2 with ⟨rfl, rfl⟩ | ⟨g', cap, cur, rfl, _, hh, hnc, _, hcs, htk⟩
  · exact ⟨none, 0, rfl, hn, hX, fun h => absurd h (by omega)⟩
  · refine ⟨_, cap, rfl, hn, hX, fun _ => ⟨_, rfl, (Array.getElem?_eq_some_iff.1 hh).1, fun j hj => ?_⟩⟩
    have he : (⟨g', 0, none⟩ : Addr).add j = ⟨g', j, none⟩ := by unfold Addr.add; split <;> simp_all
    rw [he]
    have h1 : w.cell? ⟨g', j, none⟩ = cur[j]? := by simp [World.cell?, hh]
    have h2 : cur[j]? = (vals X)[j]? := by
      rw [← htk, Nat.mul_one, List.getElem?_take_of_lt hj, Array.getElem?_toList]
    rw [h1, h2, vals_get, List.getElem?_eq_getElem (by omega)]
    simp [List.getD, List.getElem?_eq_getElem (show j < X.length by omega)]
end Go.Proofs.Ytkfmcbhoendocaa
