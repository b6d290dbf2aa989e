/-
  What each function of package ram answers, and does to memory: contracts over the program's translation.
  Conditions: the arguments are numbers of their kinds; memory stands as 'At' says.
-/
import Derived.Test.YtkfmcbhoendocaaProg
import Derived.Test.YtkfmcbhoendocaaRamM
import Derived.Test.YtkfmcbhoendocaaLayR
import Derived.Lib.Hide
namespace Go.Proofs.Ytkfmcbhoendocaa
open Go Go.RowKit M
set_option linter.unusedVariables false

abbrev RAt := At 161 5
theorem ret_bool {a b : Bool} (h : a = b) : Ending.returned (.bool a) = .returned (.bool b) := by rw [h]
theorem u8_info : (Try.prog.info? 5).map (fun i => (i.zero, i.size, i.bytes)) = some (some (.int .u8 0), 1, 1) := by kernel_rfl

set_option maxHeartbeats 400000 in
theorem isWidth_c (n : Int) (hn : -9223372036854775808 ≤ n ∧ n ≤ 9223372036854775807) (w : World) :
    Calls Try.prog 60 #[.int .i64 n] w fun e w' => e = .returned (.bool (widB n)) ∧ w = w' := by
  go_enter Try.func60, Try.ntmps60
  go_wp2
  all_goals
    go_ret
    exact ⟨ret_bool (by rw [Bool.eq_iff_iff]; simp [widB]; try omega), rfl⟩

set_option maxHeartbeats 400000 in
theorem Has_c (p g : Nat) (bs : List Int) (a n : Int) (w : World) (h : RAt w p g bs) (ha : 0 ≤ a ∧ a ≤ 18446744073709551615) (hn : -9223372036854775808 ≤ n ∧ n ≤ 9223372036854775807) :
    Calls Try.prog 61 #[.pointer (some ⟨p, 0, none⟩), .int .u64 a, .int .i64 n] w fun e w' => e = .returned (.bool (hasB bs.length a n)) ∧ w = w' := by
  have hc := h.head
  have hl := h.len
  clear h
  go_enter Try.func61, Try.ntmps61
  go_wp2
  all_goals
    go_ret
    exact ⟨ret_bool (by rw [Bool.eq_iff_iff]; simp [hasB]; try omega), rfl⟩

set_option maxHeartbeats 400000 in
theorem New_no (n : Int) (hn : -9223372036854775808 ≤ n ∧ n ≤ 9223372036854775807) (h : n < 1 ∨ 16 < n) (w : World) :
    Calls Try.prog 51 #[.int .i64 n] w fun e w' => e = .returned (.tuple #[.pointer none, .int .i64 1]) ∧ w = w' := by
  rcases h with h | h
  all_goals
    go_enter Try.func51, Try.ntmps51
    go_wp2
    go_ret2
    exact ⟨rfl, rfl⟩

/-- Fresh memory: where it lies, that it is all 0, and that nothing that was there has turned. -/
def Made (q : Nat) (w : World) (e : Ending) (w' : World) : Prop :=
  e = .returned (.tuple #[.pointer (some ⟨w.heap.size + 1, 0, none⟩), .int .i64 0]) ∧ RAt w' (w.heap.size + 1) w.heap.size (List.replicate (q * 4096) 0) ∧ w.grownBy w' none
set_option maxHeartbeats 400000 in
theorem New_yes (q : Nat) (h1 : 1 ≤ q) (h2 : q ≤ 16) (w : World) : Calls Try.prog 51 #[.int .i64 q] w (Made q w) := by
  have hmk : ∀ W : World, (Instr.makeSlice 95 (.int .i64 ((q : Int) * 4096)) (.int .i64 ((q : Int) * 4096))).run Try.prog W = .ok (.slice (some ⟨W.heap.size, 0, none⟩) (q * 4096) (q * 4096)) (W.alloc (.cells (vals (List.replicate (q * 4096) 0)).toArray 5)) := by
    intro W
    have := run_make_row' (P := Try.prog) 95 5 (.int .u8 0) 1 Try.underlying95 u8_info rfl .i64 .i64 (q * 4096) (by omega) (by omega) W
    rw [made_vals] at this
    simpa using this
  go_enter Try.func51, Try.ntmps51
  go_wp2
  go_ret2
  refine ⟨rfl, ⟨?_, ?_, ?_, by simp; omega⟩, gr_alloc (gr_alloc (gr_refl _ _) _) _⟩
  · have := Row.fresh (w.alloc (.cells (vals (List.replicate (q * 4096) 0)).toArray 5)) 161 [.slice (some ⟨w.heap.size, 0, none⟩) (q * 4096) (q * 4096)]
    simpa using this
  · exact (Row.fresh w 5 _).alloc _
  · intro b hb
    rw [List.eq_of_mem_replicate hb]; omega

set_option maxHeartbeats 400000 in
theorem window_c (p g : Nat) (bs : List Int) (a n : Int) (w : World) (h : RAt w p g bs) (hh : hasB bs.length a n = true) :
    Calls Try.prog 62 #[.pointer (some ⟨p, 0, none⟩), .int .u64 a, .int .i64 n] w fun e w' => e = .returned (.slice (some ⟨g, if n = 0 then 0 else offV a, none⟩) n.toNat n.toNat) ∧ w = w' := by
  have hc := h.head
  have hl := h.len
  obtain ⟨h1, h2, h3⟩ := has_of hh
  clear h hh
  go_enter Try.func62, Try.ntmps62
  go_wp2
  · go_ret
    exact ⟨rfl, rfl⟩
  · go_ret
    have e : (a - 2147483648 + n).toNat - (a - 2147483648).toNat = n.toNat := by omega
    exact ⟨by show Ending.returned (.slice _ ((a - 2147483648 + n).toNat - (a - 2147483648).toNat) ((a - 2147483648 + n).toNat - (a - 2147483648).toNat)) = _; rw [e]; rfl, rfl⟩
theorem window_pos (p g : Nat) (bs : List Int) (a : Int) (m : Nat) (w : World) (h : RAt w p g bs) (hh : hasB bs.length a m = true) (hn : 0 < m) :
    Calls Try.prog 62 #[.pointer (some ⟨p, 0, none⟩), .int .u64 a, .int .i64 m] w fun e w' => e = .returned (.slice (some ⟨g, offV a, none⟩) m m) ∧ w = w' := by
  have := window_c p g bs a m w h hh
  rwa [if_neg (by omega), Int.toNat_natCast] at this

set_option maxHeartbeats 400000 in
theorem Get_no (p g : Nat) (bs : List Int) (a n : Int) (w : World) (h : RAt w p g bs) (ha : 0 ≤ a ∧ a ≤ 18446744073709551615) (hn : -9223372036854775808 ≤ n ∧ n ≤ 9223372036854775807) (hk : okB bs.length a n = false) :
    Calls Try.prog 83 #[.pointer (some ⟨p, 0, none⟩), .int .u64 a, .int .i64 n] w fun e w' => e = .returned (.tuple #[.int .u64 0, .bool false]) ∧ w = w' := by
  by_cases hw : widB n = true
  · have hh : hasB bs.length a n = false := by simpa [okB, hw] using hk
    go_enter Try.func83, Try.ntmps83
    go_wp2_with (first | (go_at_call 60; refine (isWidth_c _ hn _).mono ?_; rintro e w' ⟨rfl, rfl⟩) | (go_at_call 61; refine (Has_c p g bs _ _ _ h ha hn).mono ?_; rintro e w' ⟨rfl, rfl⟩))
    go_ret2
    exact ⟨rfl, rfl⟩
  · have hw : widB n = false := by simpa using hw
    go_enter Try.func83, Try.ntmps83
    go_wp2_with (go_at_call 60; refine (isWidth_c _ hn _).mono ?_; rintro e w' ⟨rfl, rfl⟩)
    go_ret2
    exact ⟨rfl, rfl⟩

theorem take_snoc (l : List Int) (k : Nat) (h : k < l.length) : l.take (k + 1) = l.take k ++ [l.getD k 0] := by
  rw [List.take_succ_eq_append_getElem h]; simp [List.getD, List.getElem?_eq_getElem h]

set_option maxHeartbeats 400000 in
theorem Get_yes (p g : Nat) (bs : List Int) (a n : Int) (w : World) (h : RAt w p g bs) (ha : 0 ≤ a ∧ a ≤ 18446744073709551615) (hk : okB bs.length a n = true) :
    Calls Try.prog 83 #[.pointer (some ⟨p, 0, none⟩), .int .u64 a, .int .i64 n] w fun e w' => e = .returned (.tuple #[.int .u64 (leV ((bs.drop (offV a)).take n.toNat)), .bool true]) ∧ w = w' := by
  obtain ⟨hw, hh⟩ := ok_of hk
  have hn := wid_of hw
  have ho := (has_off hh).2
  obtain ⟨m, rfl⟩ : ∃ m : Nat, n = m := ⟨n.toNat, by omega⟩
  rw [Int.toNat_natCast] at ho ⊢
  have hl := h.len
  have hc : ∀ k, k < m → w.cell? ⟨g, offV a + k, none⟩ = some (.int .u8 (bs.getD (offV a + k) 0)) := fun k hk => h.cell (by omega)
  have hs : ∀ k, k < m → 0 ≤ bs.getD (offV a + k) 0 ∧ bs.getD (offV a + k) 0 ≤ 255 ∧ (0 ≤ leV ((bs.drop (offV a)).take k) ∧ leV ((bs.drop (offV a)).take k) < 256 ^ k) ∧
      leV ((bs.drop (offV a)).take (k + 1)) = leV ((bs.drop (offV a)).take k) + 256 ^ k * bs.getD (offV a + k) 0 := by
    intro k hk
    have hlk : ((bs.drop (offV a)).take k).length = k := by simp; omega
    have hd : (bs.drop (offV a)).getD k 0 = bs.getD (offV a + k) 0 := by simp [List.getD]
    have hbk := h.byt (bs.getD (offV a + k) 0) (by
      rw [List.getD, List.getElem?_eq_getElem (show offV a + k < bs.length by omega)]; simp)
    have hbd := leV_bd _ (take_byt (drop_byt h.byt (offV a)) k)
    rw [hlk] at hbd
    refine ⟨hbk.1, hbk.2, hbd, ?_⟩
    rw [take_snoc _ _ (by simp; omega), leV_snoc, hlk, hd]
  have HC := Lib.hid hc
  have HS := Lib.hid hs
  clear hc hk hs
  go_enter Try.func83, Try.ntmps83
  go_wp2_with (first | (go_at_call 60; refine (isWidth_c _ (by omega) _).mono ?_; rintro e w' ⟨rfl, rfl⟩) | (go_at_call 61; refine (Has_c p g bs _ _ _ h ha (by omega)).mono ?_; rintro e w' ⟨rfl, rfl⟩) | (go_at_call 62; refine (window_pos p g bs _ _ _ h hh (by omega)).mono ?_; rintro e w' ⟨rfl, rfl⟩))
  go_loop [8, 26] (fun x i => ∃ k : Nat, k ≤ m ∧ i = .int .i64 k ∧ x = .int .u64 (leV ((bs.drop (offV a)).take k))) (fun _ i => m - (intOf i).toNat)
  case atStart => exact ⟨0, Nat.zero_le _, rfl, rfl⟩
  case round =>
    obtain ⟨k, hk, rfl, rfl⟩ := hrel
    by_cases hlt : k < m
    · have hcell := HC.out k hlt
      obtain ⟨hb0, hb1, hx, hst⟩ := HS.out k hlt
      obtain ⟨b, hb⟩ : ∃ b, b = bs.getD (offV a + k) 0 := ⟨_, rfl⟩
      rw [← hb] at hcell hb0 hb1 hst
      have HST := Lib.hid hst
      have HX := Lib.hid hx
      clear hb hst hx
      go_wp2
      go_round
      case rel => exact ⟨k + 1, by omega, by go_num, by rw [or_step _ _ _ (by omega) HX.out ⟨hb0, hb1⟩, HST.out]⟩
      case measure => simp [intOf]; omega
    · obtain rfl : k = m := by omega
      go_wp2
      go_ret2
      exact ⟨rfl, rfl⟩

theorem Get_c (p g : Nat) (bs : List Int) (a n : Int) (w : World) (h : RAt w p g bs) (ha : 0 ≤ a ∧ a ≤ 18446744073709551615) (hn : -9223372036854775808 ≤ n ∧ n ≤ 9223372036854775807) :
    Calls Try.prog 83 #[.pointer (some ⟨p, 0, none⟩), .int .u64 a, .int .i64 n] w fun e w' => e = .returned (.tuple #[.int .u64 (getV bs a n), .bool (okB bs.length a n)]) ∧ w = w' := by
  cases hk : okB bs.length a n
  · have := Get_no p g bs a n w h ha hn hk
    simpa [getV, hk] using this
  · have := Get_yes p g bs a n w h ha hk
    simpa [getV, hk] using this

/-- What a store leaves: memory as it is asked for, and nothing else turned. -/
def Wrote (w : World) (p g : Nat) (cs : List Int) (v : Bool) (e : Ending) (w' : World) : Prop :=
  e = .returned (.bool v) ∧ RAt w' p g cs ∧ w.grownBy w' (some g)

set_option maxHeartbeats 400000 in
theorem Put_no (p g : Nat) (bs : List Int) (a n x : Int) (w : World) (h : RAt w p g bs) (ha : 0 ≤ a ∧ a ≤ 18446744073709551615) (hn : -9223372036854775808 ≤ n ∧ n ≤ 9223372036854775807) (hk : okB bs.length a n = false) :
    Calls Try.prog 16 #[.pointer (some ⟨p, 0, none⟩), .int .u64 a, .int .i64 n, .int .u64 x] w (Wrote w p g bs false) := by
  by_cases hw : widB n = true
  · have hh : hasB bs.length a n = false := by simpa [okB, hw] using hk
    go_enter Try.func16, Try.ntmps16
    go_wp2_with (first | (go_at_call 60; refine (isWidth_c _ hn _).mono ?_; rintro e w' ⟨rfl, rfl⟩) | (go_at_call 61; refine (Has_c p g bs _ _ _ h ha hn).mono ?_; rintro e w' ⟨rfl, rfl⟩))
    go_ret
    exact ⟨rfl, h, gr_refl _ _⟩
  · have hw : widB n = false := by simpa using hw
    go_enter Try.func16, Try.ntmps16
    go_wp2_with (go_at_call 60; refine (isWidth_c _ hn _).mono ?_; rintro e w' ⟨rfl, rfl⟩)
    go_ret
    exact ⟨rfl, h, gr_refl _ _⟩

set_option maxHeartbeats 400000 in
theorem Put_yes (p g : Nat) (bs : List Int) (a n x : Int) (w : World) (h : RAt w p g bs) (ha : 0 ≤ a ∧ a ≤ 18446744073709551615) (hx : 0 ≤ x ∧ x ≤ 18446744073709551615) (hk : okB bs.length a n = true) :
    Calls Try.prog 16 #[.pointer (some ⟨p, 0, none⟩), .int .u64 a, .int .i64 n, .int .u64 x] w (Wrote w p g (splice bs (offV a) (toB n.toNat x)) true) := by
  obtain ⟨hw, hh⟩ := ok_of hk
  have hn := wid_of hw
  have ho := (has_off hh).2
  obtain ⟨m, rfl⟩ : ∃ m : Nat, n = m := ⟨n.toNat, by omega⟩
  rw [Int.toNat_natCast] at ho ⊢
  have hl := h.len
  clear hk
  go_enter Try.func16, Try.ntmps16
  go_wp2_with (first | (go_at_call 60; refine (isWidth_c _ (by omega) _).mono ?_; rintro e w' ⟨rfl, rfl⟩) | (go_at_call 61; refine (Has_c p g bs _ _ _ h ha (by omega)).mono ?_; rintro e w' ⟨rfl, rfl⟩) | (go_at_call 62; refine (window_pos p g bs _ _ _ h hh (by omega)).mono ?_; rintro e w' ⟨rfl, rfl⟩))
  go_loopw [27] (fun i wr => ∃ k : Nat, k ≤ m ∧ i = .int .i64 k ∧ RAt wr p g (splice bs (offV a) (toB k x)) ∧ w.grownBy wr (some g)) (fun i _ => m - (intOf i).toNat)
  case atStart => exact ⟨0, Nat.zero_le _, rfl, by rw [toB, splice_nil]; exact h, gr_refl _ _⟩
  case round =>
    obtain ⟨k, hk, rfl, hA, hG⟩ := hrel
    have hlen : (splice bs (offV a) (toB k x)).length = bs.length := splice_length _ _ _ (by rw [toB_length]; omega)
    by_cases hlt : k < m
    · obtain ⟨b, hb⟩ : ∃ b, b = (splice bs (offV a) (toB k x)).getD (offV a + k) 0 := ⟨_, rfl⟩
      have hcell := hA.cell (i := offV a + k) (by omega)
      rw [← hb] at hcell
      have hfree := hA.row.free (offV a + k)
      have hset := hA.set (by decide) (i := offV a + k) (b := x / 256 ^ k % 256) (by omega) (by omega)
      rw [show (splice bs (offV a) (toB k x)).set (offV a + k) (x / 256 ^ k % 256) = splice bs (offV a) (toB (k + 1) x) from by
        rw [toB_snoc, splice_snoc _ _ _ _ (by rw [toB_length]; omega), toB_length]] at hset
      have HSET := Lib.hid hset
      clear hb hlen hset
      go_wp2
      go_roundw
      case rel => exact ⟨k + 1, by omega, by go_num, by rw [pow_8]; exact HSET.out, gr_set hG _⟩
      case measure => simp [intOf]; omega
    · obtain rfl : k = m := by omega
      clear hlen
      go_wp2
      go_ret
      exact ⟨rfl, hA, hG⟩

theorem Put_c (p g : Nat) (bs : List Int) (a n x : Int) (w : World) (h : RAt w p g bs) (ha : 0 ≤ a ∧ a ≤ 18446744073709551615) (hn : -9223372036854775808 ≤ n ∧ n ≤ 9223372036854775807) (hx : 0 ≤ x ∧ x ≤ 18446744073709551615) :
    Calls Try.prog 16 #[.pointer (some ⟨p, 0, none⟩), .int .u64 a, .int .i64 n, .int .u64 x] w (Wrote w p g (putV bs a n x) (okB bs.length a n)) := by
  cases hk : okB bs.length a n
  · have := Put_no p g bs a n x w h ha hn hk
    simpa [putV, hk] using this
  · have := Put_yes p g bs a n x w h ha hx hk
    simpa [putV, hk] using this

theorem u8_size : (Try.prog.info? 5).map (·.size) = some 1 := by kernel_rfl
/-- Bytes that are told: a new row of the call's own. -/
def Told (w : World) (cs : List Int) (e : Ending) (w' : World) : Prop :=
  e = .returned (.tuple #[.slice (some ⟨w.heap.size, 0, none⟩) cs.length cs.length, .bool true]) ∧ Row w' w.heap.size 5 (vals cs) ∧ w.grownBy w' none

set_option maxHeartbeats 400000 in
theorem Bytes_no (p g : Nat) (bs : List Int) (a n : Int) (w : World) (h : RAt w p g bs) (ha : 0 ≤ a ∧ a ≤ 18446744073709551615) (hn : -9223372036854775808 ≤ n ∧ n ≤ 9223372036854775807) (hh : hasB bs.length a n = false) :
    Calls Try.prog 45 #[.pointer (some ⟨p, 0, none⟩), .int .u64 a, .int .i64 n] w fun e w' => e = .returned (.tuple #[.slice none 0 0, .bool false]) ∧ w = w' := by
  go_enter Try.func45, Try.ntmps45
  go_wp2_with (go_at_call 61; refine (Has_c p g bs _ _ _ h ha hn).mono ?_; rintro e w' ⟨rfl, rfl⟩)
  go_ret2
  exact ⟨rfl, rfl⟩

theorem make_u8 (m : Nat) (hm : m ≤ 65536) (W : World) :
    (Instr.makeSlice 95 (.int .i64 (m : Int)) (.int .i64 (m : Int))).run Try.prog W = .ok (.slice (some ⟨W.heap.size, 0, none⟩) m m) (W.alloc (.cells (vals (List.replicate m 0)).toArray 5)) := by
  have := run_make_row' (P := Try.prog) 95 5 (.int .u8 0) 1 Try.underlying95 u8_info rfl .i64 .i64 m (by omega) (by omega) W
  rwa [made_vals] at this
/-- A copy that fills a new row with a part of another. -/
theorem copy_u8 (w : World) (g o m c : Nat) (bs zs : List Int) (hr : Row w g 5 (vals bs)) (hz : zs = (bs.drop o).take m) (ho : o + m ≤ bs.length) (o' : Nat) (ho' : 0 < m → o' = o) :
    (Builtin.copy_ #[95, 95] 3 #[.slice (some ⟨w.heap.size, 0, none⟩) m m, .slice (some ⟨g, o', none⟩) m c]).run Try.prog (w.alloc (.cells (vals (List.replicate m 0)).toArray 5)) =
      .ok (goInt m) ((w.alloc (.cells (vals (List.replicate m 0)).toArray 5)).setRow w.heap.size (vals zs).toArray) := by
  have hzl : zs.length = m := by rw [hz]; simp; omega
  have hr' := hr.alloc (.cells (vals (List.replicate m 0)).toArray 5)
  have := run_copy_row (P := Try.prog) (w.alloc (.cells (vals (List.replicate m 0)).toArray 5)) 95 95 3 5 w.heap.size 0 m m ⟨g, o', none⟩ m c (vals (List.replicate m 0)).toArray 5 (vals zs) Try.underlying95 u8_size (Row.fresh w _ _) (by rw [vals_length, hzl]; simp)
    (by
      intro j v hv
      rw [vals_get] at hv
      obtain ⟨b, hb, rfl⟩ := Option.map_eq_some_iff.1 hv
      have hj : j < m := by have := (List.getElem?_eq_some_iff.1 hb).1; omega
      have he : (⟨g, o', none⟩ : Addr).add j = ⟨g, o + j, none⟩ := by rw [ho' (by omega)]; unfold Addr.add; split <;> simp_all
      rw [he, hr'.cell, vals_get]
      rw [hz, List.getElem?_take_of_lt hj, List.getElem?_drop] at hb
      rw [hb]; rfl)
    (by simp [vals_length, hzl]) (vals_one _)
  rw [List.append_assoc, splice_vals, vals_length, hzl, splice_all _ _ (by simp [hzl])] at this
  exact this
set_option maxHeartbeats 400000 in
theorem Bytes_yes (p g : Nat) (bs : List Int) (a n : Int) (w : World) (h : RAt w p g bs) (ha : 0 ≤ a ∧ a ≤ 18446744073709551615) (hh : hasB bs.length a n = true) :
    Calls Try.prog 45 #[.pointer (some ⟨p, 0, none⟩), .int .u64 a, .int .i64 n] w (Told w ((bs.drop (offV a)).take n.toNat)) := by
  have ho := (has_off hh).2
  have hl := h.len
  have h0 := (has_of hh).1
  obtain ⟨m, rfl⟩ : ∃ m : Nat, n = m := ⟨n.toNat, by omega⟩
  rw [Int.toNat_natCast] at ho ⊢
  have hmk := make_u8 m (by omega)
  obtain ⟨zs, hz⟩ : ∃ zs, zs = (bs.drop (offV a)).take m := ⟨_, rfl⟩
  have hzl : zs.length = m := by rw [hz]; simp; omega
  obtain ⟨o', ho'⟩ : ∃ o', o' = if (m : Int) = 0 then 0 else offV a := ⟨_, rfl⟩
  have hcp := copy_u8 w g (offV a) m m bs zs h.row hz ho o' (fun h => by rw [ho', if_neg (by omega)])
  have hkp : RAt (w.alloc (.cells (vals (List.replicate m 0)).toArray 5)) p g bs := h.kept (gr_alloc (gr_refl _ _) _)
  have hwin := fun W h => window_c p g bs a m W h hh
  rw [← ho', Int.toNat_natCast] at hwin
  have HWIN := Lib.hid hwin
  have HZ := Lib.hid hz
  have HL := Lib.hid hzl
  clear hz hzl ho' hwin
  go_enter Try.func45, Try.ntmps45
  go_wp2_with (first | (go_at_call 61; refine (Has_c p g bs _ _ _ h ha (by omega)).mono ?_; rintro e w' ⟨rfl, rfl⟩) | (go_at_call 62; refine (HWIN.out _ hkp).mono ?_; rintro e w' ⟨rfl, rfl⟩))
  go_ret2
  refine ⟨?_, ?_, gr_filled _ _ _⟩
  · rw [← HZ.out, HL.out]; rfl
  · rw [← HZ.out]; exact row_filled _ _ _ _

/-- A clone: memory of its own, with the same bytes. -/
def Cloned (w : World) (bs : List Int) (e : Ending) (w' : World) : Prop :=
  e = .returned (.pointer (some ⟨w.heap.size + 1, 0, none⟩)) ∧ RAt w' (w.heap.size + 1) w.heap.size bs ∧ w.grownBy w' none
end Go.Proofs.Ytkfmcbhoendocaa
