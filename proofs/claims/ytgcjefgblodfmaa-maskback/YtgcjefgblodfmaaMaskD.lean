/-
  Contracts of package mask, on: Harts, Of; the document's Same; short; the document's example.
  Conditions: the arguments are numbers of their kinds; at most 70 harts.
-/
import Derived.Test.YtgcjefgblodfmaaMaskC
namespace Go.Proofs.Ytgcjefgblodfmaa
open Go Go.RowKit W M A Mk
set_option linter.unusedVariables false
set_option linter.unusedSimpArgs false

set_option maxHeartbeats 1000000 in
theorem Harts_c (M : Nat) (b n : Int) (hM : M < 18446744073709551616) (hb : 0 ≤ b ∧ b ≤ 18446744073709551615) (hn : -9223372036854775808 ≤ n ∧ n ≤ 9223372036854775807) (w : World) :
    Calls Try.prog 8 #[.int .u64 (M : Int), .int .u64 b, .int .i64 n] w fun e w' => ∃ v, e = .returned (.tuple #[v, .bool (hartsV M b n).2]) ∧ Arr w' w.heap.size v (hartsV M b n).1 ∧ w.grownBy w' none := by
  have F := Lib.hid (firsts_c (manyV n) (many_le n) w)
  have P := Lib.hid (picked_c M b (manyV n) hM hb (many_le n) w)
  have hm := many_int n
  have hle := many_le n
  unfold hartsV
  generalize manyV n = N at *
  go_enter Try.func8, Try.ntmps8
  have hm' : (if 8 < if n < 0 then 0 else n then 8 else if n < 0 then 0 else n) = (N : Int) := by
    rw [hm]
    split
    · split at * <;> omega
    · split at * <;> omega
  clear hm
  go_upto_region 2 with (fail)
  clear hm'
  generalize (if n < 0 then (0 : Int) else n) = n0 at *
  by_cases hbe : b = 18446744073709551615
  · subst hbe
    clear P
    go_wp2_with fail
    refine F.out.mono ?_
    rintro e w1 ⟨v, rfl, h1, h2⟩
    have H := Lib.hid (And.intro h1 h2)
    clear h1 h2
    go_wp2_with fail
    refine ret_tt rfl rfl rfl rfl ?_
    exact ⟨_, rfl, H.out.1, H.out.2⟩
  · have HB := Lib.hid hbe
    have hbe' : (b == 18446744073709551615) = false := by simpa using hbe
    clear F hbe
    go_wp2_with fail
    refine P.out.mono ?_
    rintro e w1 ⟨v, rfl, h1, h2⟩
    have H := Lib.hid (And.intro h1 h2)
    clear h1 h2
    go_wp2_with fail
    refine ret_tt rfl rfl rfl rfl ?_
    try rw [if_neg HB.out]
    exact ⟨_, rfl, H.out.1, H.out.2⟩
theorem shl_or {m : Nat} {h : Int} (hm : m < 18446744073709551616) (hh : 0 ≤ h ∧ h < 64) : bits .or .u64 (m : Int) (IntKind.u64.wrap (2 ^ h.toNat)) = ((m ||| 2 ^ h.toNat : Nat) : Int) := by
  have hp : 2 ^ h.toNat < 18446744073709551616 := Nat.lt_of_lt_of_eq (Nat.pow_lt_pow_right (m := h.toNat) (n := 64) (by omega) (by omega)) (by decide)
  have := orV_nat m (2 ^ h.toNat) hm hp
  unfold orV at this
  have e : IntKind.u64.wrap ((2 : Int) ^ h.toNat) = ((2 ^ h.toNat : Nat) : Int) := by
    rw [u64_eq, show ((2 : Int) ^ h.toNat) = ((2 ^ h.toNat : Nat) : Int) by simp]
    generalize 2 ^ h.toNat = q at *
    omega
  rw [e, this]
set_option maxHeartbeats 1000000 in
theorem Of_c (v : Value) (l : List Int) (hl : l.length ≤ 70) (w : World) (hv : Sees w v l) :
    Calls Try.prog 11 #[v] w fun e w' => e = .returned (.int .u64 (ofV l : Nat)) ∧ w = w' := by
  obtain ⟨A, cap, rfl, hc, hs⟩ := hv
  have HS := Lib.hid hs
  clear hs
  go_enter Try.func11, Try.ntmps11
  go_wp2_with fail
  go_loopw [3, 8, 5] (fun x y _ wr => ∃ i : Nat, y = .int .i64 i ∧ i ≤ l.length ∧ x = .int .u64 (ofV (l.take i) : Nat) ∧ wr = w) (fun _ y _ _ => l.length - (intOf y).toNat)
  case atStart => exact ⟨0, rfl, Nat.zero_le _, rfl, rfl⟩
  case round =>
    obtain ⟨i, rfl, hi, rfl, rfl⟩ := hrel
    by_cases hlt : i < l.length
    · obtain ⟨ad, rfl, hbl, hx⟩ := HS.out i hlt
      have hs := of_take hlt
      have h64 := of_lt (l.take i)
      generalize l.getD i 0 = h at *
      generalize ofV (l.take i) = m at *
      unfold ofStep at hs
      by_cases hh : 0 ≤ h ∧ h < 64
      · rw [if_pos hh] at hs
        have hh1 := hh.1
        have hh2 := hh.2
        have hor := shl_or (m := m) h64 hh
        have HS2 := Lib.hid hs
        clear hs hh
        go_wp2_with fail
        go_roundw
        case rel => exact ⟨i + 1, by go_num, by omega, by rw [HS2.out], trivial⟩
        case measure => simp [intOf]; omega
      · rw [if_neg hh] at hs
        have HS2 := Lib.hid hs
        clear hs
        by_cases h0 : 0 ≤ h
        · have h1 : 64 ≤ h := by omega
          clear hh
          go_wp2_with fail
          go_roundw
          case rel => exact ⟨i + 1, by go_num, by omega, by rw [HS2.out], trivial⟩
          case measure => simp [intOf]; omega
        · clear hh
          go_wp2_with fail
          go_roundw
          case rel => exact ⟨i + 1, by go_num, by omega, by rw [HS2.out], trivial⟩
          case measure => simp [intOf]; omega
    · obtain rfl : i = l.length := by omega
      rw [List.take_length]
      go_wp2_with fail
      go_ret
      exact ⟨rfl, rfl⟩
theorem take_ext {a b : List Int} {i : Nat} (h : a.take i = b.take i) (ha : i < a.length) (hb : i < b.length) (he : a.getD i 0 = b.getD i 0) : a.take (i + 1) = b.take (i + 1) := by
  rw [List.take_add_one, List.take_add_one, h, List.getElem?_eq_getElem ha, List.getElem?_eq_getElem hb]
  simp only [List.getD, List.getElem?_eq_getElem ha, List.getElem?_eq_getElem hb, Option.getD_some] at he
  rw [he]
theorem take_ne {a b : List Int} {i : Nat} (he : a.getD i 0 ≠ b.getD i 0) : a ≠ b := fun e => he (by rw [e])
set_option maxHeartbeats 1000000 in
theorem Same_c (va vb : Value) (a b : List Int) (hl : a.length ≤ 70) (hl2 : b.length ≤ 70) (w : World) (ha : Sees w va a) (hb : Sees w vb b) :
    Calls Try.prog 10 #[va, vb] w fun e w' => e = .returned (.bool (decide (a = b))) ∧ w.grownBy w' none := by
  have HA := Lib.hid ha
  have HB := Lib.hid hb
  obtain ⟨A, cap, rfl, -, -⟩ := ha
  obtain ⟨B, cap2, rfl, -, -⟩ := hb
  go_enter Try.func10, Try.ntmps10
  by_cases hlen : a.length = b.length
  · have hbe : b.length = a.length := hlen.symm
    rw [hbe]
    rw [hbe] at HB
    clear hbe
    have HL := Lib.hid hlen
    clear hlen hl2
    go_wp2_with fail
    go_loopw [5] (fun x wr => ∃ i : Nat, x = .int .i64 i ∧ i ≤ a.length ∧ a.take i = b.take i ∧ w.grownBy wr none) (fun x _ => a.length - (intOf x).toNat)
    case atStart => exact ⟨0, rfl, Nat.zero_le _, rfl, gr_refl _ _⟩
    case round =>
      obtain ⟨i, rfl, hi, ht, hG⟩ := hrel
      by_cases hlt : i < a.length
      · obtain ⟨A', c1, e1, -, hs1⟩ := HA.out.kept hG
        obtain ⟨B', c2, e2, -, hs2⟩ := HB.out.kept hG
        obtain ⟨ad, rfl, -, h1⟩ := hs1 i hlt
        obtain ⟨bd, rfl, -, h2⟩ := hs2 i (by have := HL.out; omega)
        obtain ⟨rfl, rfl⟩ : A = some ad ∧ cap = c1 := by injection e1 with q1 q2 q3; exact ⟨q1, q3⟩
        obtain ⟨rfl, rfl⟩ : B = some bd ∧ cap2 = c2 := by injection e2 with q1 q2 q3; exact ⟨q1, q3⟩
        have HE := Lib.hid (fun he => take_ext ht hlt (show i < b.length by have := HL.out; omega) he)
        have HN := Lib.hid (take_ne (a := a) (b := b) (i := i))
        have HG := Lib.hid hG
        clear hs1 hs2 e1 e2 hG ht
        generalize a.getD i 0 = x at *
        generalize b.getD i 0 = y at *
        go_wp2_with fail
        go_region
        by_cases hxy : x = y
        · have hb : (x != y) = false := by simp [hxy]
          have HE2 := Lib.hid (HE.out hxy)
          rw [hb]
          clear hb hxy
          go_wp2_with fail
          go_roundw
          case rel => exact ⟨i + 1, by go_num, by omega, HE2.out, gr_drew HG.out⟩
          case measure => simp [intOf]; omega
        · have hb : (x != y) = true := by simp [hxy]
          have HN2 := Lib.hid (decide_eq_false (HN.out hxy))
          rw [hb]
          clear hb hxy
          go_wp2_with fail
          go_ret
          rw [HN2.out]
          exact ⟨rfl, gr_drew HG.out⟩
      · obtain rfl : i = a.length := by omega
        have hlen := HL.out
        rw [List.take_length, hlen, List.take_length] at ht
        have HT := Lib.hid ht
        have HG := Lib.hid hG
        clear hG ht hlen
        go_wp2_with fail
        go_ret
        rw [decide_eq_true HT.out]
        exact ⟨rfl, HG.out⟩
  · have hne : decide (a = b) = false := decide_eq_false (fun e => hlen (by rw [e]))
    have HN := Lib.hid hne
    have hle : ((a.length : Int) == (b.length : Int)) = false := by simp; omega
    clear hne
    go_wp2_with fail
    go_ret
    rw [HN.out]
    exact ⟨rfl, gr_refl _ _⟩
set_option maxHeartbeats 1000000 in
theorem short_c (v : Value) (l : List Int) (w : World) (hv : Sees w v l) :
    Calls Try.prog 12 #[v] w fun e w' => ∃ u, e = .returned u ∧ Sees w u (l.take 70) ∧ w = w' := by
  obtain ⟨A, cap, rfl, hc, hs⟩ := hv
  have HS := Lib.hid hs
  go_enter Try.func12, Try.ntmps12
  by_cases h : 70 < l.length
  · obtain ⟨ad, rfl, -, -⟩ := hs 0 (by omega)
    clear hs
    go_wp2_with fail
    go_ret
    refine ⟨_, rfl, ?_, rfl⟩
    have hl70 : (l.take 70).length = 70 := by rw [List.length_take]; omega
    refine ⟨some ad, cap, by rw [hl70]; rfl, by omega, fun i hi => ?_⟩
    rw [hl70] at hi
    obtain ⟨ad', e, hb, hx⟩ := HS.out i (by omega)
    refine ⟨ad', e, hb, hx.trans ?_⟩
    simp [List.getD, hi]
  · clear hs
    go_wp2_with fail
    go_ret
    refine ⟨_, rfl, ?_, rfl⟩
    rw [List.take_of_length_le (by omega)]
    exact ⟨A, cap, rfl, hc, HS.out⟩
theorem ex16 : hartsV 5 1 8 = ([1, 3], true) := by decide +kernel
set_option maxHeartbeats 1000000 in
theorem shown16_c (w : World) : Calls Try.prog 7 #[] w fun e w' => e = .returned (.bool true) ∧ w.grownBy w' none := by
  have E := Lib.hid (Harts_c 5 1 8 (by decide) (by decide) (by decide) w)
  rw [ex16] at E
  go_enter Try.func7, Try.ntmps7
  go_wp2_with fail
  refine (E.out).mono ?_
  rintro e w1 ⟨v, rfl, hA, hG⟩
  rcases hA.parts with ⟨-, h⟩ | ⟨g, cap, cur, rfl, -, hr, hc, -, -, h6⟩
  · cases h
  obtain ⟨-, k0⟩ := hA.at (i := 0) (by decide)
  obtain ⟨lt, k1⟩ := hA.at (i := 1) (by decide)
  replace k0 : w1.cell? ⟨g, 0, none⟩ = some (.int .i64 1) := k0
  replace k1 : w1.cell? ⟨g, 1, none⟩ = some (.int .i64 3) := k1
  replace hc : 2 ≤ cap := hc
  rw [show ([1, 3] : List Int).length = 2 from rfl]
  have HG := Lib.hid hG
  clear hG hA E hr h6
  go_wp2_with fail
  go_ret
  exact ⟨rfl, HG.out⟩
end Go.Proofs.Ytgcjefgblodfmaa
