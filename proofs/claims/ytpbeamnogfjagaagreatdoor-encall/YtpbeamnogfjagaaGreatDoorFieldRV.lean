/-
  Plain mathematics of the document's own answers for layer 3: bit by bit, by lists of places; they are the program's.
  Conditions: the numbers are of their kinds.
-/
import Derived.Test.YtpbeamnogfjagaaGreatDoorFieldN
namespace Go.Proofs.YtpbeamnogfjagaaGreatDoor.F
open Go Go.RowKit W
set_option linter.unusedVariables false

/-- The places of a format's number, as the document names them; -1 is a 0. -/
def plcL (f : Int) : List Int :=
  if f = 1 then [20, 21, 22, 23, 24, 25, 26, 27, 28, 29, 30, 31] else if f = 2 then [7, 8, 9, 10, 11, 25, 26, 27, 28, 29, 30, 31]
  else if f = 3 then [-1, 8, 9, 10, 11, 25, 26, 27, 28, 29, 30, 7, 31]
  else if f = 4 then [-1, -1, -1, -1, -1, -1, -1, -1, -1, -1, -1, -1, 12, 13, 14, 15, 16, 17, 18, 19, 20, 21, 22, 23, 24, 25, 26, 27, 28, 29, 30, 31]
  else if f = 5 then [-1, 21, 22, 23, 24, 25, 26, 27, 28, 29, 30, 20, 12, 13, 14, 15, 16, 17, 18, 19, 31] else []
/-- One bit of a word. -/
def bitV (x : Nat) (k : Int) : Nat := if k < 0 ∨ 31 < k then 0 else get x k.toNat 1
theorem bitV_lt (x : Nat) (k : Int) : bitV x k < 2 := by
  unfold bitV; split
  · omega
  · exact get_lt x _ 1
theorem bitV_get (x : Nat) (k : Nat) (hx : x < 4294967296) : bitV x k = get x k 1 := by
  unfold bitV
  split
  · rename_i h
    have hk : 32 ≤ k := by omega
    have : (2 : Nat) ^ 32 ≤ 2 ^ k := Nat.pow_le_pow_right (by omega) hk
    rw [get, Nat.shiftRight_eq_div_pow, Nat.div_eq_of_lt (by rw [show (2 : Nat) ^ 32 = 4294967296 from rfl] at this; omega), Nat.zero_mod]
  · rw [Int.toNat_natCast]
theorem get_succ (x l k : Nat) : get x l (k + 1) = get x l k + 2 ^ k * get x (l + k) 1 := by
  unfold get
  rw [Nat.shiftRight_add, Nat.pow_succ, Nat.mod_mul, Nat.shiftRight_eq_div_pow (x >>> l) k, Nat.pow_one]
theorem get_cap (x l m : Nat) (hx : x < 4294967296) (hm : 32 ≤ m) : get x l m = get x l 32 := by
  have hd : x >>> l ≤ x := by rw [Nat.shiftRight_eq_div_pow]; exact Nat.div_le_self _ _
  have : (2 : Nat) ^ 32 ≤ 2 ^ m := Nat.pow_le_pow_right (by omega) hm
  rw [show (2 : Nat) ^ 32 = 4294967296 from rfl] at this
  unfold get
  rw [Nat.mod_eq_of_lt (by omega), Nat.mod_eq_of_lt (by rw [show (2 : Nat) ^ 32 = 4294967296 from rfl]; omega)]

/-! ### The number, bit by bit -/
/-- The sum of the bits at the places, from bit k on. -/
def sumI (x : Nat) : Nat → List Int → Nat
  | _, [] => 0
  | k, p :: ps => bitV x p * 2 ^ k + sumI x (k + 1) ps
def sp1 (p : Int) : Nat × Nat := if p < 0 then (32, 1) else (p.toNat, 1)
theorem sumI_mod (x : Nat) : ∀ (ps : List Int) (k : Nat), sumI x k ps % 2 ^ k = 0
  | [], k => by simp [sumI]
  | p :: ps, k => by
    have ih := sumI_mod x ps (k + 1)
    rw [sumI]
    obtain ⟨c, hc⟩ := Nat.dvd_of_mod_eq_zero ih
    rw [hc, Nat.pow_succ, Nat.mul_comm (bitV x p), Nat.mul_assoc, ← Nat.mul_add]
    exact Nat.mul_mod_right _ _
theorem sp1_get (x : Nat) (p : Int) (hx : x < 4294967296) : get x (sp1 p).1 (sp1 p).2 = bitV x p := by
  unfold sp1
  split
  · rename_i h
    rw [bitV, if_pos (Or.inl h)]
    show get x 32 1 = 0
    rw [get, Nat.shiftRight_eq_div_pow, Nat.div_eq_of_lt hx]
  · rename_i h
    obtain ⟨k, rfl⟩ : ∃ k : Nat, p = k := ⟨p.toNat, by omega⟩
    rw [bitV_get x k hx]; rfl
theorem sumI_gat (x : Nat) (hx : x < 4294967296) : ∀ (ps : List Int) (k : Nat), sumI x k ps = gat x k (ps.map sp1)
  | [], k => rfl
  | p :: ps, k => by
    have ih := sumI_gat x hx ps (k + 1)
    have hm := sumI_mod x ps (k + 1)
    have e2 : (sp1 p).2 = 1 := by unfold sp1; split <;> rfl
    rw [sumI, List.map_cons, show sp1 p = ((sp1 p).1, (sp1 p).2) from rfl, gat, sp1_get x p hx, e2, ← ih]
    obtain ⟨c, hc⟩ := Nat.dvd_of_mod_eq_zero hm
    rw [hc, Nat.shiftLeft_eq, Nat.or_comm, ← Nat.two_pow_add_eq_or_of_lt, Nat.add_comm]
    have hb := bitV_lt x p
    rw [Nat.pow_succ, Nat.mul_comm]
    exact Nat.mul_lt_mul_of_pos_left hb (Nat.two_pow_pos k)
def refOk (f : Int) : Bool := (List.range 64).all fun j => let a := plOf 0 ((plcL f).map sp1) j; (a == plc f j) || (a == some 32 && plc f j == none)
theorem ref_ok : refOk 1 = true ∧ refOk 2 = true ∧ refOk 3 = true ∧ refOk 4 = true ∧ refOk 5 = true := by decide +kernel
theorem refEnds : ends 0 ((plcL 1).map sp1) = 12 ∧ ends 0 ((plcL 2).map sp1) = 12 ∧ ends 0 ((plcL 3).map sp1) = 13 ∧ ends 0 ((plcL 4).map sp1) = 32 ∧ ends 0 ((plcL 5).map sp1) = 21 := by decide
theorem ref_num (x : Nat) (f : Int) (h : 1 ≤ f ∧ f ≤ 5) (hx : x < 4294967296) : sumI x 0 (plcL f) = num x f := by
  have hall : refOk f = true := five (P := fun f => refOk f = true) f h ref_ok.1 ref_ok.2.1 ref_ok.2.2.1 ref_ok.2.2.2.1 ref_ok.2.2.2.2
  have hE : ends 0 ((plcL f).map sp1) ≤ 64 := five (P := fun f => ends 0 ((plcL f).map sp1) ≤ 64) f h (by rw [refEnds.1]; omega) (by rw [refEnds.2.1]; omega) (by rw [refEnds.2.2.1]; omega) (by rw [refEnds.2.2.2.1]; omega) (by rw [refEnds.2.2.2.2]; omega)
  have hb := bts_bd f h
  rw [sumI_gat x hx]
  apply Nat.eq_of_testBit_eq
  intro j
  rw [gat_bit, num_bit]
  by_cases hj : j < 64
  · have := List.all_eq_true.1 hall j (by simpa using hj)
    simp only [Bool.or_eq_true, Bool.and_eq_true, beq_iff_eq] at this
    rcases this with e | ⟨e1, e2⟩
    · rw [e]
    · rw [e1, e2, bitO, bitO]
      exact Nat.testBit_lt_two_pow (by exact hx)
  · rw [plOf_ge _ 0 j (by omega), plc, plOf_ge _ _ j (by have : bts f = ends (zer f) (spn f) := rfl; omega)]
theorem plc_len (f : Int) (h : 1 ≤ f ∧ f ≤ 5) : (plcL f).length = bts f ∧ (plcL f).length ≤ 32 :=
  five (P := fun f => (plcL f).length = bts f ∧ (plcL f).length ≤ 32) f h (by decide) (by decide) (by decide) (by decide) (by decide)

/-! ### The word, bit by bit -/
/-- The sum of the bits of n, from bit k on, laid at the places. -/
def sumL (n : Nat) : Nat → List Int → Nat
  | _, [] => 0
  | k, p :: ps => (if p < 0 then 0 else get n k 1 * 2 ^ p.toNat) + sumL n (k + 1) ps
def inR : Nat → List Int → Nat → List Nat
  | _, [], _ => []
  | k, p :: ps, i => if p = i then k :: inR (k + 1) ps i else inR (k + 1) ps i
def Apart (ps : List Int) : Prop := ps.Pairwise fun a b => a < 0 ∨ a ≠ b
theorem inR_none : ∀ (ps : List Int) (k i : Nat), (∀ p ∈ ps, p ≠ i) → inR k ps i = []
  | [], _, _, _ => rfl
  | p :: ps, k, i, h => by
    rw [inR, if_neg (h p (by simp))]
    exact inR_none ps (k + 1) i fun q hq => h q (by simp [hq])
theorem add_or (y b p : Nat) (hb : b < 2) (hy : y.testBit p = false) : b * 2 ^ p + y = b <<< p ||| y := by
  rw [Nat.shiftLeft_eq]
  rcases (show b = 0 ∨ b = 1 by omega) with rfl | rfl
  · simp
  · rw [Nat.one_mul]
    have e : y = 2 ^ (p + 1) * (y / 2 ^ (p + 1)) + y % 2 ^ p := by
      have h1 := Nat.div_add_mod y (2 ^ (p + 1))
      have h2 : y % 2 ^ (p + 1) = y % 2 ^ p := by
        rw [Nat.pow_succ, Nat.mod_mul]
        rw [Nat.testBit_eq_decide_div_mod_eq] at hy
        have : y / 2 ^ p % 2 = 0 := by
          have := of_decide_eq_false hy
          omega
        rw [this]; omega
      rw [← h2]; omega
    have hl : y % 2 ^ p < 2 ^ p := Nat.mod_lt _ (Nat.two_pow_pos p)
    generalize y / 2 ^ (p + 1) = u at e
    generalize y % 2 ^ p = v at e hl
    subst e
    have hl2 : 2 ^ p + v < 2 ^ (p + 1) := by rw [Nat.pow_succ]; omega
    have hl3 : v < 2 ^ (p + 1) := by rw [Nat.pow_succ]; omega
    have e1 : 2 ^ p + v = 2 ^ p ||| v := by
      have := Nat.two_pow_add_eq_or_of_lt hl 1
      rwa [Nat.mul_one] at this
    have e2 := Nat.two_pow_add_eq_or_of_lt hl3 u
    have e3 := Nat.two_pow_add_eq_or_of_lt hl2 u
    have e4 : 2 ^ p + (2 ^ (p + 1) * u + v) = 2 ^ (p + 1) * u + (2 ^ p + v) := by omega
    rw [e4, e3, e2, e1, ← Nat.or_assoc, ← Nat.or_assoc, Nat.or_comm (2 ^ p)]
theorem sumL_bit (n : Nat) : ∀ (ps : List Int) (k i : Nat), Apart ps → (sumL n k ps).testBit i = (inR k ps i).any n.testBit
  | [], k, i, _ => by simp [sumL, inR]
  | p :: ps, k, i, h => by
    have h1 := (List.pairwise_cons.1 h).1
    have h2 := (List.pairwise_cons.1 h).2
    have ih := fun i => sumL_bit n ps (k + 1) i h2
    rw [sumL, inR]
    by_cases hp : p < 0
    · rw [if_pos hp, if_neg (by omega), Nat.zero_add, ih]
    · rw [if_neg hp]
      obtain ⟨q, rfl⟩ : ∃ q : Nat, p = q := ⟨p.toNat, by omega⟩
      rw [Int.toNat_natCast]
      have hq : (sumL n (k + 1) ps).testBit q = false := by
        rw [ih, inR_none ps (k + 1) q (fun r hr e => by
          rcases h1 r hr with h3 | h3
          · omega
          · exact h3 e.symm)]
        rfl
      rw [add_or _ _ _ (get_lt n k 1) hq, Nat.testBit_or, Nat.testBit_shiftLeft, get_bit, ih]
      by_cases e : (q : Int) = i
      · obtain rfl : q = i := by omega
        rw [if_pos rfl]
        simp
      · rw [if_neg e]
        by_cases h3 : q ≤ i
        · have : ¬ (i - q < 1) := by omega
          simp [h3]; omega
        · simp [h3]
def refLOk (f : Int) : Bool := (List.range 32).all fun i => inR 0 (plcL f) i == inv f i
theorem refL_ok : refLOk 1 = true ∧ refLOk 2 = true ∧ refLOk 3 = true ∧ refLOk 4 = true ∧ refLOk 5 = true := by decide +kernel
theorem plc_apart (f : Int) (h : 1 ≤ f ∧ f ≤ 5) : Apart (plcL f) ∧ ∀ p ∈ plcL f, -1 ≤ p ∧ p ≤ 31 :=
  five (P := fun f => Apart (plcL f) ∧ ∀ p ∈ plcL f, -1 ≤ p ∧ p ≤ 31) f h (by unfold Apart; decide) (by unfold Apart; decide) (by unfold Apart; decide) (by unfold Apart; decide) (by unfold Apart; decide)
theorem wordV_lt (n f : Int) (h : 1 ≤ f ∧ f ≤ 5) : wordV n f < 4294967296 := by
  refine sca_lt (low n) (spn f) ?_ (zer f)
  exact five (P := fun f => Within (spn f)) f h (by unfold Within; decide) (by unfold Within; decide) (by unfold Within; decide) (by unfold Within; decide) (by unfold Within; decide)
theorem ref_word (n f : Int) (h : 1 ≤ f ∧ f ≤ 5) : sumL (low n) 0 (plcL f) = wordV n f := by
  have hall : refLOk f = true := five (P := fun f => refLOk f = true) f h refL_ok.1 refL_ok.2.1 refL_ok.2.2.1 refL_ok.2.2.2.1 refL_ok.2.2.2.2
  apply Nat.eq_of_testBit_eq
  intro i
  rw [sumL_bit _ _ _ _ (plc_apart f h).1, wordV_bit]
  by_cases hi : i < 32
  · have := List.all_eq_true.1 hall i (by simpa using hi)
    rw [beq_iff_eq.1 this]
  · have hw : (wordV n f).testBit i = false := Nat.testBit_lt_two_pow (Nat.lt_of_lt_of_le (wordV_lt n f h) (by
      have : (2 : Nat) ^ 32 ≤ 2 ^ i := Nat.pow_le_pow_right (by omega) (by omega)
      exact this))
    rw [wordV_bit] at hw
    rw [hw, inR_none _ 0 i (fun p hp => by have := (plc_apart f h).2 p hp; omega)]
    rfl
end Go.Proofs.YtpbeamnogfjagaaGreatDoor.F
