/-
  Plain mathematics of layer 9, on: bits; what the document's own answer reckons; rows that are legal.
  Conditions: none; nothing here speaks of the program.
-/
import Derived.Test.YtkfmcbhoendocaaDoorCsrV
namespace Go.Proofs.YtkfmcbhoendocaaDoor.C
open Go Go.RowKit W D A
set_option linter.unusedVariables false

/-! ### Bits -/
def cN (y : Nat) : Nat := 18446744073709551615 - y
theorem high_off {x i : Nat} (hx : x < 18446744073709551616) (hi : ¬ i < 64) : x.testBit i = false :=
  Nat.testBit_lt_two_pow (Nat.lt_of_lt_of_le hx (by have : (2 : Nat) ^ 64 ≤ 2 ^ i := Nat.pow_le_pow_right (by omega) (by omega); exact this))
theorem tb_not (x y i : Nat) (hx : x < 18446744073709551616) (hy : y < 18446744073709551616) : (x &&& cN y).testBit i = (x.testBit i && !y.testBit i) := by
  rw [Nat.testBit_and]
  by_cases hi : i < 64
  · have h := Nat.testBit_two_pow_sub_succ (n := 64) (x := y) hy i
    rw [show cN y = 2 ^ 64 - (y + 1) by unfold cN; omega, h]
    simp [hi]
  · rw [high_off hx hi]; rfl
theorem and_lt (x : Nat) {y : Nat} (hy : y < 18446744073709551616) : x &&& y < 18446744073709551616 := Nat.and_lt_two_pow (n := 64) x hy
theorem and_lt' {x : Nat} (hx : x < 18446744073709551616) (y : Nat) : x &&& y < 18446744073709551616 := by rw [Nat.and_comm]; exact and_lt y hx
theorem or_lt {x y : Nat} (hx : x < 18446744073709551616) (hy : y < 18446744073709551616) : x ||| y < 18446744073709551616 := Nat.or_lt_two_pow (n := 64) hx hy
theorem cN_lt (y : Nat) : cN y < 18446744073709551616 := by unfold cN; omega
/-- Numbers with the same bits are the same. -/
theorem bits_eq {x y : Nat} (h : ∀ i, x.testBit i = y.testBit i) : x = y := Nat.eq_of_testBit_eq h
theorem split64 (x m : Nat) (hx : x < 18446744073709551616) (hm : m < 18446744073709551616) : (x &&& m) + (x &&& cN m) = x := by
  have h := nat_and_or (x &&& m) (x &&& cN m)
  have z : (x &&& m) &&& (x &&& cN m) = 0 := bits_eq fun i => by
    rw [Nat.testBit_and, tb_not x m i hx hm, Nat.testBit_and, Nat.zero_testBit]
    cases x.testBit i <;> cases m.testBit i <;> rfl
  have o : (x &&& m) ||| (x &&& cN m) = x := bits_eq fun i => by
    rw [Nat.testBit_or, tb_not x m i hx hm, Nat.testBit_and]
    cases x.testBit i <;> cases m.testBit i <;> rfl
  omega
theorem and_pow (x i : Nat) : x &&& 2 ^ i = x / 2 ^ i % 2 * 2 ^ i := by
  have hb := Nat.testBit_eq_decide_div_mod_eq (x := x) (i := i)
  have := Nat.mod_lt (x / 2 ^ i) (show 0 < 2 by omega)
  refine bits_eq fun j => ?_
  rw [Nat.testBit_and, Nat.testBit_two_pow]
  by_cases h : x / 2 ^ i % 2 = 1
  · rw [h, Nat.one_mul, Nat.testBit_two_pow]
    by_cases e : i = j
    · subst e; rw [hb, h]; simp
    · simp [e]
  · have h0 : x / 2 ^ i % 2 = 0 := by omega
    rw [h0, Nat.zero_mul, Nat.zero_testBit]
    by_cases e : i = j
    · subst e; rw [hb, h0]; simp
    · simp [e]

/-! ### The functions over natural numbers -/
def sN (x : Nat) : Nat := (x &&& 786722) ||| 8589934592
def iN (a x : Nat) : Nat := (x &&& 2) ||| (a &&& cN 2)
theorem sN_lt (x : Nat) : sN x < 18446744073709551616 := or_lt (and_lt x (by omega)) (by omega)
theorem iN_lt (a x : Nat) : iN a x < 18446744073709551616 := or_lt (and_lt x (by omega)) (and_lt a (cN_lt 2))
theorem stat_n (a : Int) (x : Nat) (hx : x < 18446744073709551616) : statV a x = (sN x : Nat) := by
  unfold statV sN
  rw [show (786722 : Int) = ((786722 : Nat) : Int) from rfl, andV_nat x 786722 hx (by omega), show (8589934592 : Int) = ((8589934592 : Nat) : Int) from rfl, orV_nat _ _ (and_lt x (by omega)) (by omega)]
theorem only_n (a : Int) (x m : Nat) (hx : x < 18446744073709551616) (hm : m < 18446744073709551616) : onlyV (m : Int) a x = (x &&& m : Nat) := andV_nat x m hx hm
theorem ip_n (a x : Nat) (ha : a < 18446744073709551616) (hx : x < 18446744073709551616) : ipV (a : Int) (x : Int) = (iN a x : Nat) := by
  unfold ipV iN
  rw [show (2 : Int) = ((2 : Nat) : Int) from rfl, andV_nat x 2 hx (by omega), not_nat a 2 ha (by omega), show 18446744073709551615 - 2 = cN 2 from rfl, orV_nat _ _ (and_lt x (by omega)) (and_lt a (cN_lt 2))]

/-! ### As the document's own answer reckons -/
theorem and2 (x : Int) (hx : B64 x) : bits .and .u64 x 2 = x / 2 % 2 * 2 := by
  obtain ⟨x, rfl, kx⟩ := hx.nat; replace hx := kx
  have h := andV_nat x 2 hx (by omega)
  unfold andV at h
  rw [show (2 : Int) = ((2 : Nat) : Int) from rfl, h, show 2 = 2 ^ 1 from rfl, and_pow]
  omega
theorem tvec_eq (a x : Int) (hx : B64 x) : onlyV 18446744073709551613 a x = x - x / 2 % 2 * 2 := by
  obtain ⟨x, rfl, kx⟩ := hx.nat; replace hx := kx
  have h := split64 x 2 hx (by omega)
  rw [show (18446744073709551613 : Int) = ((cN 2 : Nat) : Int) from rfl, only_n a x (cN 2) hx (cN_lt 2)]
  have := and_pow x 1
  rw [show 2 ^ 1 = 2 from rfl] at this
  omega
theorem cnt_eq (a x : Int) (hx : B64 x) : onlyV 7 a x = x % 8 := by
  obtain ⟨x, rfl, kx⟩ := hx.nat; replace hx := kx
  rw [show (7 : Int) = ((7 : Nat) : Int) from rfl, only_n a x 7 hx (by omega), show 7 = 2 ^ 3 - 1 from rfl, Nat.and_two_pow_sub_one_eq_mod]
  omega
theorem epc_eq (a x : Int) (hx : B64 x) : onlyV 18446744073709551614 a x = x - x % 2 := by
  obtain ⟨x, rfl, kx⟩ := hx.nat; replace hx := kx
  have h := split64 x 1 hx (by omega)
  rw [show (18446744073709551614 : Int) = ((cN 1 : Nat) : Int) from rfl, only_n a x (cN 1) hx (cN_lt 1)]
  have := and_pow x 0
  rw [show 2 ^ 0 = 1 from rfl] at this
  omega
theorem ip_eq (a x : Int) (ha : B64 a) (hx : B64 x) : ipV a x = a - a / 2 % 2 * 2 + x / 2 % 2 * 2 := by
  obtain ⟨x, rfl, kx⟩ := hx.nat; replace hx := kx
  obtain ⟨a, rfl, ka⟩ := ha.nat; replace ha := ka
  rw [ip_n a x ha hx]
  have h := split64 a 2 ha (by omega)
  have k := nat_and_or (x &&& 2) (a &&& cN 2)
  have z : (x &&& 2) &&& (a &&& cN 2) = 0 := bits_eq fun i => by
    rw [Nat.testBit_and, tb_not a 2 i ha (by omega), Nat.testBit_and, Nat.zero_testBit]
    cases x.testBit i <;> cases a.testBit i <;> cases (2 : Nat).testBit i <;> rfl
  have e1 := and_pow x 1
  have e2 := and_pow a 1
  rw [show 2 ^ 1 = 2 from rfl] at e1 e2
  unfold iN
  omega
theorem user_eq (x : Int) (hx : B64 x) (k : Nat) (hk : k < 3) : (!(andV x (2 ^ k : Nat) == 0)) = (x / (2 ^ k : Nat) % 2 == 1) := by
  obtain ⟨x, rfl, kx⟩ := hx.nat; replace hx := kx
  have hp : (2 : Nat) ^ k < 18446744073709551616 := by
    have : (2 : Nat) ^ k ≤ 2 ^ 2 := Nat.pow_le_pow_right (by omega) (by omega)
    omega
  rw [andV_nat x (2 ^ k) hx hp, and_pow]
  have := Nat.mod_lt (x / 2 ^ k) (show 0 < 2 by omega)
  have h2 : 0 < 2 ^ k := Nat.pow_pos (by omega)
  rw [show ((x : Int) / ((2 ^ k : Nat) : Int) % 2) = ((x / 2 ^ k % 2 : Nat) : Int) by norm_cast]
  generalize x / 2 ^ k % 2 = d at *
  have hd : d = 0 ∨ d = 1 := by omega
  rcases hd with rfl | rfl
  · simp
  · have : ((1 * 2 ^ k : Nat) : Int) ≠ 0 := by omega
    rw [show (((1 * 2 ^ k : Nat) : Int) == 0) = false by simpa using this]; rfl

/-! ### Rows that are legal -/
def sV (x : Int) : Int := statV 0 x
theorem stat_any (a x : Int) : statV a x = sV x := rfl
theorem legal_12 (a0 a1 a2 a3 a4 a5 a6 a7 a8 a9 a10 a11 : Int) : legalV [a0, a1, a2, a3, a4, a5, a6, a7, a8, a9, a10, a11] = [sV a0, andV a1 546, andV a2 18446744073709551613, andV a3 7, a4, andV a5 18446744073709551614, a6, a7, andV a8 34, satpV 0 a9, a10, a11] := rfl
theorem sV_idem (x : Int) (hx : B64 x) : sV (sV x) = sV x := by
  obtain ⟨x, rfl, kx⟩ := hx.nat; replace hx := kx
  unfold sV
  rw [stat_n 0 x hx, stat_n 0 _ (sN_lt x)]
  congr 1
  refine bits_eq fun i => ?_
  unfold sN
  rw [Nat.testBit_or, Nat.testBit_and, Nat.testBit_or, Nat.testBit_and]
  cases x.testBit i <;> cases (786722 : Nat).testBit i <;> cases (8589934592 : Nat).testBit i <;> rfl
theorem and_idem (x m : Int) (hx : B64 x) (hm : B64 m) : andV (andV x m) m = andV x m := by
  obtain ⟨x, rfl, kx⟩ := hx.nat; replace hx := kx
  obtain ⟨m, rfl, km⟩ := hm.nat; replace hm := km
  rw [andV_nat x m hx hm, andV_nat _ m (and_lt x hm) hm, Nat.and_assoc, Nat.and_self]
theorem satp_idem (x : Int) : satpV 0 (satpV 0 x) = satpV 0 x := by
  by_cases h : x / 1152921504606846976 = 0 ∨ x / 1152921504606846976 = 8
  · rw [show satpV 0 x = x by unfold satpV; rw [if_pos h]]
    unfold satpV; rw [if_pos h]
  · rw [show satpV 0 x = 0 by unfold satpV; rw [if_neg h]]
    rfl
theorem satp_put (l x : Int) : satpV 0 (satpV (satpV 0 l) x) = satpV (satpV 0 l) x := by
  by_cases h : x / 1152921504606846976 = 0 ∨ x / 1152921504606846976 = 8
  · rw [show satpV (satpV 0 l) x = x by unfold satpV; rw [if_pos h]]
    unfold satpV; rw [if_pos h]
  · rw [show satpV (satpV 0 l) x = satpV 0 l from if_neg h]
    exact satp_idem l
theorem satp_self (v : Int) : satpV v v = v := by unfold satpV; split <;> rfl
theorem ip_legal (l x : Int) (hl : B64 l) (hx : B64 x) : andV (ipV (andV l 34) x) 34 = ipV (andV l 34) x := by
  obtain ⟨x, rfl, kx⟩ := hx.nat; replace hx := kx
  obtain ⟨l, rfl, kl⟩ := hl.nat; replace hl := kl
  rw [show (34 : Int) = ((34 : Nat) : Int) from rfl, andV_nat l 34 hl (by omega), ip_n _ x (and_lt l (by omega)) hx, andV_nat _ 34 (iN_lt _ _) (by omega)]
  congr 1
  refine bits_eq fun i => ?_
  unfold iN
  rw [Nat.testBit_and, Nat.testBit_or, tb_not _ 2 i (and_lt l (by omega)) (by omega), Nat.testBit_and, Nat.testBit_and]
  have h : (2 : Nat).testBit i = true → (34 : Nat).testBit i = true := by
    intro h
    have : i = 1 := by
      rw [show 2 = 2 ^ 1 from rfl, Nat.testBit_two_pow] at h
      have := of_decide_eq_true h
      omega
    subst this; rfl
  cases h2 : (2 : Nat).testBit i
  · cases x.testBit i <;> cases l.testBit i <;> cases (34 : Nat).testBit i <;> rfl
  · rw [h h2]
    cases x.testBit i <;> cases l.testBit i <;> rfl
theorem ip_self (v : Int) (hv : B64 v) : ipV v v = v := by
  obtain ⟨v, rfl, kv⟩ := hv.nat; replace hv := kv
  rw [ip_n v v hv hv]
  congr 1
  refine bits_eq fun i => ?_
  unfold iN
  rw [Nat.testBit_or, tb_not v 2 i hv (by omega), Nat.testBit_and]
  cases v.testBit i <;> cases (2 : Nat).testBit i <;> rfl
/-- Which numbers there are. -/
def ten (n : Int) : Prop := n = 256 ∨ n = 260 ∨ n = 261 ∨ n = 262 ∨ n = 320 ∨ n = 321 ∨ n = 322 ∨ n = 323 ∨ n = 324 ∨ n = 384
instance (n : Int) : Decidable (ten n) := by unfold ten; exact inferInstance
theorem not_ten (n : Int) (h : ¬ ten n) : A.look tR n = none := by
  unfold ten at h
  simp only [tR, A.look]
  rw [if_neg (by omega), if_neg (by omega), if_neg (by omega), if_neg (by omega), if_neg (by omega), if_neg (by omega), if_neg (by omega), if_neg (by omega), if_neg (by omega), if_neg (by omega)]
theorem legal_legal {c : Cs} (hc : Good c) : legalV (legalV c) = legalV c := by
  have g := fun i => hc.get i
  obtain ⟨a0, a1, a2, a3, a4, a5, a6, a7, a8, a9, a10, a11, rfl⟩ := twelve hc.1
  rw [legal_12, legal_12, sV_idem a0 (g 0), and_idem a1 _ (g 1) (by decide), and_idem a2 _ (g 2) (by decide), and_idem a3 _ (g 3) (by decide), and_idem a5 _ (g 5) (by decide), and_idem a8 _ (g 8) (by decide), satp_idem]
/-- What is written into a legal row is legal. -/
theorem write_legal {c : Cs} (hc : Good c) (n x : Int) (hx : B64 x) : legalV (writeV (legalV c) n x) = writeV (legalV c) n x := by
  by_cases h : ten n
  · have g := fun i => hc.get i
    obtain ⟨a0, a1, a2, a3, a4, a5, a6, a7, a8, a9, a10, a11, rfl⟩ := twelve hc.1
    rw [legal_12]
    have i0 := sV_idem a0 (g 0)
    have i1 := and_idem a1 546 (g 1) (by decide)
    have i2 := and_idem a2 18446744073709551613 (g 2) (by decide)
    have i3 := and_idem a3 7 (g 3) (by decide)
    have i5 := and_idem a5 18446744073709551614 (g 5) (by decide)
    have i8 := and_idem a8 34 (g 8) (by decide)
    have i9 := satp_idem a9
    rcases h with rfl | rfl | rfl | rfl | rfl | rfl | rfl | rfl | rfl | rfl
    · show legalV [sV x, _, _, _, _, _, _, _, _, _, _, _] = [sV x, _, _, _, _, _, _, _, _, _, _, _]
      rw [legal_12, sV_idem x hx, i1, i2, i3, i5, i8, i9]
    · show legalV [_, andV x 546, _, _, _, _, _, _, _, _, _, _] = [_, andV x 546, _, _, _, _, _, _, _, _, _, _]
      rw [legal_12, i0, and_idem x 546 hx (by decide), i2, i3, i5, i8, i9]
    · show legalV [_, _, andV x 18446744073709551613, _, _, _, _, _, _, _, _, _] = [_, _, andV x 18446744073709551613, _, _, _, _, _, _, _, _, _]
      rw [legal_12, i0, i1, and_idem x 18446744073709551613 hx (by decide), i3, i5, i8, i9]
    · show legalV [_, _, _, andV x 7, _, _, _, _, _, _, _, _] = [_, _, _, andV x 7, _, _, _, _, _, _, _, _]
      rw [legal_12, i0, i1, i2, and_idem x 7 hx (by decide), i5, i8, i9]
    · show legalV [_, _, _, _, x, _, _, _, _, _, _, _] = [_, _, _, _, x, _, _, _, _, _, _, _]
      rw [legal_12, i0, i1, i2, i3, i5, i8, i9]
    · show legalV [_, _, _, _, _, andV x 18446744073709551614, _, _, _, _, _, _] = [_, _, _, _, _, andV x 18446744073709551614, _, _, _, _, _, _]
      rw [legal_12, i0, i1, i2, i3, and_idem x 18446744073709551614 hx (by decide), i8, i9]
    · show legalV [_, _, _, _, _, _, x, _, _, _, _, _] = [_, _, _, _, _, _, x, _, _, _, _, _]
      rw [legal_12, i0, i1, i2, i3, i5, i8, i9]
    · show legalV [_, _, _, _, _, _, _, x, _, _, _, _] = [_, _, _, _, _, _, _, x, _, _, _, _]
      rw [legal_12, i0, i1, i2, i3, i5, i8, i9]
    · show legalV [_, _, _, _, _, _, _, _, ipV (andV a8 34) x, _, _, _] = [_, _, _, _, _, _, _, _, ipV (andV a8 34) x, _, _, _]
      rw [legal_12, i0, i1, i2, i3, i5, ip_legal a8 x (g 8) hx, i9]
    · show legalV [_, _, _, _, _, _, _, _, _, satpV (satpV 0 a9) x, _, _] = [_, _, _, _, _, _, _, _, _, satpV (satpV 0 a9) x, _, _]
      rw [legal_12, i0, i1, i2, i3, i5, i8, satp_put]
  · rw [writeV, not_ten n h]
    exact legal_legal hc
/-- What is written again changes nothing. -/
theorem write_again {c : Cs} (hc : Good c) (n x t : Int) (hx : B64 x) (ht : B64 t) : writeV (writeV c n x) n (readV (writeV c n x) n t) = writeV c n x := by
  by_cases h : ten n
  · have g := fun i => hc.get i
    obtain ⟨a0, a1, a2, a3, a4, a5, a6, a7, a8, a9, a10, a11, rfl⟩ := twelve hc.1
    rcases h with rfl | rfl | rfl | rfl | rfl | rfl | rfl | rfl | rfl | rfl
    · show [sV (sV x), _, _, _, _, _, _, _, _, _, _, _] = [sV x, _, _, _, _, _, _, _, _, _, _, _]
      rw [sV_idem x hx]
    · show [_, andV (andV x 546) 546, _, _, _, _, _, _, _, _, _, _] = [_, andV x 546, _, _, _, _, _, _, _, _, _, _]
      rw [and_idem x 546 hx (by decide)]
    · show [_, _, andV (andV x 18446744073709551613) 18446744073709551613, _, _, _, _, _, _, _, _, _] = [_, _, andV x 18446744073709551613, _, _, _, _, _, _, _, _, _]
      rw [and_idem x 18446744073709551613 hx (by decide)]
    · show [_, _, _, andV (andV x 7) 7, _, _, _, _, _, _, _, _] = [_, _, _, andV x 7, _, _, _, _, _, _, _, _]
      rw [and_idem x 7 hx (by decide)]
    · rfl
    · show [_, _, _, _, _, andV (andV x 18446744073709551614) 18446744073709551614, _, _, _, _, _, _] = [_, _, _, _, _, andV x 18446744073709551614, _, _, _, _, _, _]
      rw [and_idem x 18446744073709551614 hx (by decide)]
    · rfl
    · rfl
    · show [_, _, _, _, _, _, _, _, ipV (ipV a8 x) (ipV a8 x), _, _, _] = [_, _, _, _, _, _, _, _, ipV a8 x, _, _, _]
      rw [ip_self (ipV a8 x) (ip_bd (g 8) hx)]
    · show [_, _, _, _, _, _, _, _, _, satpV (satpV a9 x) (satpV a9 x), _, _] = [_, _, _, _, _, _, _, _, _, satpV a9 x, _, _]
      rw [satp_self]
  · have e := not_ten n h
    rw [writeV, e]
theorem fresh_legal : legalV freshV = freshV := by decide +kernel
theorem fresh_seven : gC (writeV freshV 321 7) 5 = 6 := by decide +kernel
theorem write_cycle (c : Cs) (n x : Int) (i : Nat) (hi : i = 10 ∨ i = 11) : gC (writeV c n x) i = gC c i := by
  unfold writeV
  split
  · rename_i j f e
    have hj : j ≠ i := by
      have key : ∀ (L : Tr), (∀ r ∈ L, r.2.1 < 10) → A.look L n = some (j, f) → j < 10 := by
        intro L
        induction L with
        | nil => intro _ h; simp [A.look] at h
        | cons r L ih =>
          intro hL h
          obtain ⟨k, j', f'⟩ := r
          rw [A.look] at h
          split at h
          · injection h with h; injection h with h1 h2; subst h1; exact hL (k, j', f') (by simp)
          · exact ih (fun r hr => hL r (by simp [hr])) h
      have := key tR (by decide) e
      omega
    unfold gC
    rw [List.getD_eq_getElem?_getD, List.getElem?_set_ne hj, List.getD_eq_getElem?_getD]
  · rfl
end Go.Proofs.YtkfmcbhoendocaaDoor.C
