/-
  Plain mathematics of layer 6 (enc): the word of an instruction; what is laid is that instruction; and is the least.
  Conditions: none; nothing here speaks of the program.
-/
import Derived.Test.YtpbeamnogfjagaaGreatDoorEncW
namespace Go.Proofs.YtpbeamnogfjagaaGreatDoor.D
open Go Go.RowKit F
set_option linter.unusedVariables false

theorem vals_ok : ((List.range 98).all fun (n : Nat) => (fldsOf n).all fun q => decide (q.2.2 < 2 ^ q.2.1)) = true := by decide +kernel
theorem vals_lt (o : Int) (ho : 0 ≤ o ∧ o ≤ 97) : ∀ q ∈ fldsOf o, q.2.2 < 2 ^ q.2.1 := by
  intro q hq
  obtain ⟨n, rfl⟩ : ∃ n : Nat, o = n := ⟨o.toNat, by omega⟩
  exact of_decide_eq_true (List.all_eq_true.1 (List.all_eq_true.1 vals_ok n (by simp; omega)) q hq)
theorem baseOf_off (k j : Nat) : ∀ L : Flds, (∀ q ∈ L, q.2.2 < 2 ^ q.2.1) → (L.all fun q => apart q k j) = true → get (baseOf L) k j = 0
  | [], _, _ => get_zero k j
  | q :: L, hv, h => by
    rw [List.all_cons, Bool.and_eq_true] at h
    rw [baseOf, get_or, baseOf_off k j L (fun q hq => hv q (by simp [hq])) h.2]
    rw [get_shl_off q.2.2 q.1 q.2.1 k j (hv q (by simp)) (by have := apart_or h.1; omega)]
    rfl
theorem base_off {o : Int} (ho : 0 ≤ o ∧ o ≤ 97) {k j : Nat} (h : clear o k j = true) : get (baseV o) k j = 0 := baseOf_off k j _ (vals_lt o ho) h
/-- All ops from a to b. -/
def rng (a b : Nat) (P : Int → Bool) : Bool := (List.range (b + 1 - a)).all fun i => P ((a + i : Nat) : Int)
theorem rng_at {a b : Nat} {P : Int → Bool} (h : rng a b P = true) (o : Int) (ho : (a : Int) ≤ o ∧ o ≤ b) : P o = true := by
  have := List.all_eq_true.1 h (o.toNat - a) (by simp; omega)
  rwa [show ((a + (o.toNat - a) : Nat) : Int) = o by omega] at this
/-- The bits of an op are none of a format's. -/
def offs (o f : Int) : Bool := (fldsOf o).all fun q => offB f q.1 q.2.1
theorem offs_lay {o f : Int} (h : offs o f = true) (n : Int) : ∀ q ∈ fldsOf o, get (layV n f) q.1 q.2.1 = 0 :=
  fun q hq => get_lay_off n f _ _ (List.all_eq_true.1 h q hq)
theorem clear_shl {o : Int} {k j a : Nat} (h : clear o k j = true) (ha : a < 2 ^ j) : ∀ q ∈ fldsOf o, get (a <<< k) q.1 q.2.1 = 0 :=
  fun q hq => get_shl_off a k j _ _ ha (apart_or (List.all_eq_true.1 h q hq))
theorem free0 (o : Int) (k : Nat) : Free o 0 k := ⟨by decide, Or.inl rfl⟩
theorem zero_off (o : Int) : ∀ q ∈ fldsOf o, get 0 q.1 q.2.1 = 0 := fun q _ => get_zero _ _
theorem shl0 (k l m : Nat) : get (0 <<< k) l m = 0 := by rw [Nat.zero_shiftLeft]; exact get_zero l m
theorem lay_small (im : Int) (h : 0 ≤ im ∧ im < 2048) : layV im 1 = im.toNat <<< 20 := by
  have hB : layB im 1 = true := by
    rw [lay_iff im 1 (by omega), bts_eq.1]
    exact decide_eq_true ⟨by omega, by omega, by rw [show zer 1 = 0 from rfl]; omega⟩
  rw [layV, if_pos hB, F.wordV, show spn 1 = [(20, 12)] from rfl, show zer 1 = 0 from rfl, sca, sca, Nat.or_zero, get_div]
  congr 1
  unfold low
  omega

section
variable {B a b c N : Nat}
theorem put_rd (hB : get B 7 5 = 0) (ha : a < 32) (hN : get N 7 5 = 0) (hc : c < 32) (hb : b < 32) : get (put B a b c N) 7 5 = a := by
  rw [put_get, hB, hN, get_shl_at a 7 5 ha, get_shl_off b 15 5 7 5 hb (by omega), get_shl_off c 20 5 7 5 hc (by omega)]; simp
theorem put_rs1 (hB : get B 15 5 = 0) (ha : a < 32) (hN : get N 15 5 = 0) (hc : c < 32) (hb : b < 32) : get (put B a b c N) 15 5 = b := by
  rw [put_get, hB, hN, get_shl_at b 15 5 hb, get_shl_off a 7 5 15 5 ha (by omega), get_shl_off c 20 5 15 5 hc (by omega)]; simp
theorem put_rs2 (hB : get B 20 5 = 0) (ha : a < 32) (hN : get N 20 5 = 0) (hc : c < 32) (hb : b < 32) : get (put B a b c N) 20 5 = c := by
  rw [put_get, hB, hN, get_shl_at c 20 5 hc, get_shl_off a 7 5 20 5 ha (by omega), get_shl_off b 15 5 20 5 hb (by omega)]; simp
theorem put_imm (f n : Int) (hB : layB n f = true) (h : ∀ p ∈ spn f, get B p.1 p.2 = 0 ∧ get (a <<< 7) p.1 p.2 = 0 ∧ get (b <<< 15) p.1 p.2 = 0 ∧ get (c <<< 20) p.1 p.2 = 0) : immV (put B a b c (layV n f)) f = n := by
  rw [imm_congr (x := layV n f) f, lay_told n f hB]
  intro p hp
  obtain ⟨h1, h2, h3, h4⟩ := h p hp
  rw [put_get, h1, h2, h3, h4]; simp
end

def tgtOk (f o : Int) : Bool := clear o 7 5 && offs o f && offB f 7 5 && (spn f).all fun p => clear o p.1 p.2 && apart (p.1, p.2, 0) 7 5
theorem fam_tgt {o f n : Int} {a : Nat} (ho : 1 ≤ o ∧ o ≤ 97) (hs : ∀ x, shape o x = tgt x (immV x f)) (ha : a < 32) (hB : layB n f = true) (hk : tgtOk f o = true) :
    put (baseV o) a 0 0 (layV n f) < 4294967296 ∧ D.wordV (put (baseV o) a 0 0 (layV n f)) = (o, (a : Int), 0, 0, n) := by
  simp only [tgtOk, Bool.and_eq_true] at hk
  obtain ⟨⟨⟨k1, k2⟩, k3⟩, k4⟩ := hk
  obtain ⟨h1, h2⟩ := put_op o ho (a := a) (b := 0) (c := 0) ⟨ha, Or.inr k1⟩ (free0 o 15) (free0 o 20) (layV_lt n f) (offs_lay k2 n)
  refine ⟨h1, ?_⟩
  rw [h2, hs, tgt, put_rd (base_off (by omega) k1) ha (get_lay_off n f 7 5 k3) (by omega) (by omega), put_imm f n hB]
  intro p hp
  have hp' := List.all_eq_true.1 k4 p hp
  rw [Bool.and_eq_true] at hp'
  exact ⟨base_off (by omega) hp'.1, get_shl_off a 7 5 _ _ ha (apart_or hp'.2), shl0 _ _ _, shl0 _ _ _⟩
def srcOk (f o : Int) : Bool := clear o 7 5 && clear o 15 5 && offs o f && offB f 7 5 && offB f 15 5 && (spn f).all fun p => clear o p.1 p.2 && apart (p.1, p.2, 0) 7 5 && apart (p.1, p.2, 0) 15 5
theorem fam_src {o f n : Int} {a b : Nat} (ho : 1 ≤ o ∧ o ≤ 97) (hs : ∀ x, shape o x = src x (immV x f)) (ha : a < 32) (hb : b < 32) (hB : layB n f = true) (hk : srcOk f o = true) :
    put (baseV o) a b 0 (layV n f) < 4294967296 ∧ D.wordV (put (baseV o) a b 0 (layV n f)) = (o, (a : Int), (b : Int), 0, n) := by
  simp only [srcOk, Bool.and_eq_true] at hk
  obtain ⟨⟨⟨⟨⟨k1, k0⟩, k2⟩, k3⟩, k5⟩, k4⟩ := hk
  obtain ⟨h1, h2⟩ := put_op o ho (a := a) (b := b) (c := 0) ⟨ha, Or.inr k1⟩ ⟨hb, Or.inr k0⟩ (free0 o 20) (layV_lt n f) (offs_lay k2 n)
  refine ⟨h1, ?_⟩
  rw [h2, hs, src, put_rd (base_off (by omega) k1) ha (get_lay_off n f 7 5 k3) (by omega) hb, put_rs1 (base_off (by omega) k0) ha (get_lay_off n f 15 5 k5) (by omega) hb, put_imm f n hB]
  intro p hp
  have hp' := List.all_eq_true.1 k4 p hp
  simp only [Bool.and_eq_true] at hp'
  exact ⟨base_off (by omega) hp'.1.1, get_shl_off a 7 5 _ _ ha (apart_or hp'.1.2), get_shl_off b 15 5 _ _ hb (apart_or hp'.2), shl0 _ _ _⟩
def parOk (f o : Int) : Bool := clear o 15 5 && clear o 20 5 && offs o f && offB f 15 5 && offB f 20 5 && (spn f).all fun p => clear o p.1 p.2 && apart (p.1, p.2, 0) 15 5 && apart (p.1, p.2, 0) 20 5
theorem fam_par {o f n : Int} {b c : Nat} (ho : 1 ≤ o ∧ o ≤ 97) (hs : ∀ x, shape o x = par x (immV x f)) (hb : b < 32) (hc : c < 32) (hB : layB n f = true) (hk : parOk f o = true) :
    put (baseV o) 0 b c (layV n f) < 4294967296 ∧ D.wordV (put (baseV o) 0 b c (layV n f)) = (o, 0, (b : Int), (c : Int), n) := by
  simp only [parOk, Bool.and_eq_true] at hk
  obtain ⟨⟨⟨⟨⟨k1, k0⟩, k2⟩, k3⟩, k5⟩, k4⟩ := hk
  obtain ⟨h1, h2⟩ := put_op o ho (a := 0) (b := b) (c := c) (free0 o 7) ⟨hb, Or.inr k1⟩ ⟨hc, Or.inr k0⟩ (layV_lt n f) (offs_lay k2 n)
  refine ⟨h1, ?_⟩
  rw [h2, hs, par, put_rs1 (base_off (by omega) k1) (by omega) (get_lay_off n f 15 5 k3) hc hb, put_rs2 (base_off (by omega) k0) (by omega) (get_lay_off n f 20 5 k5) hc hb, put_imm f n hB]
  intro p hp
  have hp' := List.all_eq_true.1 k4 p hp
  simp only [Bool.and_eq_true] at hp'
  exact ⟨base_off (by omega) hp'.1.1, shl0 _ _ _, get_shl_off b 15 5 _ _ hb (apart_or hp'.1.2), get_shl_off c 20 5 _ _ hc (apart_or hp'.2)⟩
def smallOk (j : Nat) (o : Int) : Bool := clear o 7 5 && clear o 15 5 && clear o 20 j
theorem fam_small {o : Int} {a b n j : Nat} (ho : 1 ≤ o ∧ o ≤ 97) (hj : j ≤ 12) (hs : ∀ x, shape o x = src x (get x 20 j : Nat)) (ha : a < 32) (hb : b < 32) (hn : n < 2 ^ j) (hk : smallOk j o = true) :
    put (baseV o) a b 0 (n <<< 20) < 4294967296 ∧ D.wordV (put (baseV o) a b 0 (n <<< 20)) = (o, (a : Int), (b : Int), 0, (n : Int)) := by
  simp only [smallOk, Bool.and_eq_true] at hk
  obtain ⟨⟨k1, k0⟩, k2⟩ := hk
  have hl : n <<< 20 < 4294967296 := by
    rw [Nat.shiftLeft_eq]
    have : (2 : Nat) ^ j ≤ 2 ^ 12 := Nat.pow_le_pow_right (by omega) hj
    omega
  obtain ⟨h1, h2⟩ := put_op o ho (a := a) (b := b) (c := 0) ⟨ha, Or.inr k1⟩ ⟨hb, Or.inr k0⟩ (free0 o 20) hl (clear_shl k2 hn)
  refine ⟨h1, ?_⟩
  have e : get (put (baseV o) a b 0 (n <<< 20)) 20 j = n := by
    rw [put_get, base_off (by omega) k2, get_shl_off a 7 5 20 j ha (by omega), get_shl_off b 15 5 20 j hb (by omega), shl0, get_shl_at n 20 j hn]; simp
  rw [h2, hs, src, e, put_rd (base_off (by omega) k1) ha (get_shl_off n 20 j 7 5 hn (by omega)) (by omega) hb, put_rs1 (base_off (by omega) k0) ha (get_shl_off n 20 j 15 5 hn (by omega)) (by omega) hb]
def thrOk (o : Int) : Bool := clear o 7 5 && clear o 15 5 && clear o 20 5
theorem fam_thr {o : Int} {a b c : Nat} (ho : 1 ≤ o ∧ o ≤ 97) (hs : ∀ x, shape o x = thr x) (ha : a < 32) (hb : b < 32) (hc : c < 32) (hk : thrOk o = true) :
    put (baseV o) a b c 0 < 4294967296 ∧ D.wordV (put (baseV o) a b c 0) = (o, (a : Int), (b : Int), (c : Int), 0) := by
  simp only [thrOk, Bool.and_eq_true] at hk
  obtain ⟨⟨k1, k0⟩, k2⟩ := hk
  obtain ⟨h1, h2⟩ := put_op o ho (a := a) (b := b) (c := c) (N := 0) ⟨ha, Or.inr k1⟩ ⟨hb, Or.inr k0⟩ ⟨hc, Or.inr k2⟩ (by omega) (zero_off o)
  refine ⟨h1, ?_⟩
  rw [h2, hs, thr, put_rd (base_off (by omega) k1) ha (get_zero _ _) hc hb, put_rs1 (base_off (by omega) k0) ha (get_zero _ _) hc hb, put_rs2 (base_off (by omega) k2) ha (get_zero _ _) hc hb]
theorem fam_bar {o : Int} (ho : 1 ≤ o ∧ o ≤ 97) (hs : ∀ x, shape o x = bar) :
    put (baseV o) 0 0 0 0 < 4294967296 ∧ D.wordV (put (baseV o) 0 0 0 0) = (o, 0, 0, 0, 0) := by
  obtain ⟨h1, h2⟩ := put_op o ho (a := 0) (b := 0) (c := 0) (N := 0) (free0 o 7) (free0 o 15) (free0 o 20) (by omega) (zero_off o)
  exact ⟨h1, by rw [h2, hs]; rfl⟩
theorem fam_par0 {o : Int} {b c : Nat} (ho : 1 ≤ o ∧ o ≤ 97) (hs : ∀ x, shape o x = par x 0) (hb : b < 32) (hc : c < 32) (hk : (clear o 15 5 && clear o 20 5) = true) :
    put (baseV o) 0 b c 0 < 4294967296 ∧ D.wordV (put (baseV o) 0 b c 0) = (o, 0, (b : Int), (c : Int), 0) := by
  simp only [Bool.and_eq_true] at hk
  obtain ⟨h1, h2⟩ := put_op o ho (a := 0) (b := b) (c := c) (N := 0) (free0 o 7) ⟨hb, Or.inr hk.1⟩ ⟨hc, Or.inr hk.2⟩ (by omega) (zero_off o)
  refine ⟨h1, ?_⟩
  rw [h2, hs, par, put_rs1 (base_off (by omega) hk.1) (by omega) (get_zero _ _) hc hb, put_rs2 (base_off (by omega) hk.2) (by omega) (get_zero _ _) hc hb]
theorem fam_src0 {o : Int} {a b : Nat} (ho : 1 ≤ o ∧ o ≤ 97) (hs : ∀ x, shape o x = src x 0) (ha : a < 32) (hb : b < 32) (hk : (clear o 7 5 && clear o 15 5) = true) :
    put (baseV o) a b 0 0 < 4294967296 ∧ D.wordV (put (baseV o) a b 0 0) = (o, (a : Int), (b : Int), 0, 0) := by
  simp only [Bool.and_eq_true] at hk
  obtain ⟨h1, h2⟩ := put_op o ho (a := a) (b := b) (c := 0) (N := 0) ⟨ha, Or.inr hk.1⟩ ⟨hb, Or.inr hk.2⟩ (free0 o 20) (by omega) (zero_off o)
  refine ⟨h1, ?_⟩
  rw [h2, hs, src, put_rd (base_off (by omega) hk.1) ha (get_zero _ _) (by omega) hb, put_rs1 (base_off (by omega) hk.2) ha (get_zero _ _) (by omega) hb]

/-! ### The word of an instruction -/
/-- The bits of a number, by the op. -/
def numW (o im : Int) : Nat :=
  if o ≤ 0 then 0 else if o ≤ 2 then layV im 4 else if o ≤ 3 then layV im 5 else if o ≤ 4 then layV im 1 else if o ≤ 10 then layV im 3 else if o ≤ 17 then layV im 1 else if o ≤ 21 then layV im 2 else if o ≤ 30 then layV im 1
  else if o ≤ 40 then 0 else if o ≤ 44 then layV im 1 else if o ≤ 69 then 0 else if o ≤ 75 then im.toNat <<< 20 else 0
def layW (o : Int) (p : Parts) : Nat := put (baseV o) p.1.toNat p.2.1.toNat p.2.2.1.toNat (numW o p.2.2.2)
theorem num0 (o im : Int) (h : o ≤ 0) : numW o im = 0 := by
  unfold numW; rw [if_pos (by omega)]
theorem num1 (o im : Int) (h : 1 ≤ o ∧ o ≤ 2) : numW o im = layV im 4 := by
  unfold numW; rw [if_neg (by omega), if_pos (by omega)]
theorem num2 (o im : Int) (h : 3 ≤ o ∧ o ≤ 3) : numW o im = layV im 5 := by
  unfold numW; rw [if_neg (by omega), if_neg (by omega), if_pos (by omega)]
theorem num3 (o im : Int) (h : 4 ≤ o ∧ o ≤ 4) : numW o im = layV im 1 := by
  unfold numW; rw [if_neg (by omega), if_neg (by omega), if_neg (by omega), if_pos (by omega)]
theorem num4 (o im : Int) (h : 5 ≤ o ∧ o ≤ 10) : numW o im = layV im 3 := by
  unfold numW; rw [if_neg (by omega), if_neg (by omega), if_neg (by omega), if_neg (by omega), if_pos (by omega)]
theorem num5 (o im : Int) (h : 11 ≤ o ∧ o ≤ 17) : numW o im = layV im 1 := by
  unfold numW; rw [if_neg (by omega), if_neg (by omega), if_neg (by omega), if_neg (by omega), if_neg (by omega), if_pos (by omega)]
theorem num6 (o im : Int) (h : 18 ≤ o ∧ o ≤ 21) : numW o im = layV im 2 := by
  unfold numW; rw [if_neg (by omega), if_neg (by omega), if_neg (by omega), if_neg (by omega), if_neg (by omega), if_neg (by omega), if_pos (by omega)]
theorem num7 (o im : Int) (h : 22 ≤ o ∧ o ≤ 30) : numW o im = layV im 1 := by
  unfold numW; rw [if_neg (by omega), if_neg (by omega), if_neg (by omega), if_neg (by omega), if_neg (by omega), if_neg (by omega), if_neg (by omega), if_pos (by omega)]
theorem num8 (o im : Int) (h : 31 ≤ o ∧ o ≤ 40) : numW o im = 0 := by
  unfold numW; rw [if_neg (by omega), if_neg (by omega), if_neg (by omega), if_neg (by omega), if_neg (by omega), if_neg (by omega), if_neg (by omega), if_neg (by omega), if_pos (by omega)]
theorem num9 (o im : Int) (h : 41 ≤ o ∧ o ≤ 44) : numW o im = layV im 1 := by
  unfold numW; rw [if_neg (by omega), if_neg (by omega), if_neg (by omega), if_neg (by omega), if_neg (by omega), if_neg (by omega), if_neg (by omega), if_neg (by omega), if_neg (by omega), if_pos (by omega)]
theorem num10 (o im : Int) (h : 45 ≤ o ∧ o ≤ 69) : numW o im = 0 := by
  unfold numW; rw [if_neg (by omega), if_neg (by omega), if_neg (by omega), if_neg (by omega), if_neg (by omega), if_neg (by omega), if_neg (by omega), if_neg (by omega), if_neg (by omega), if_neg (by omega), if_pos (by omega)]
theorem num11 (o im : Int) (h : 70 ≤ o ∧ o ≤ 75) : numW o im = im.toNat <<< 20 := by
  unfold numW; rw [if_neg (by omega), if_neg (by omega), if_neg (by omega), if_neg (by omega), if_neg (by omega), if_neg (by omega), if_neg (by omega), if_neg (by omega), if_neg (by omega), if_neg (by omega), if_neg (by omega), if_pos (by omega)]
theorem num12 (o im : Int) (h : 76 ≤ o) : numW o im = 0 := by
  unfold numW; rw [if_neg (by omega), if_neg (by omega), if_neg (by omega), if_neg (by omega), if_neg (by omega), if_neg (by omega), if_neg (by omega), if_neg (by omega), if_neg (by omega), if_neg (by omega), if_neg (by omega), if_neg (by omega)]
theorem lay1 {n : Int} (h : -2048 ≤ n ∧ n < 2048) : layB n 1 = true := by
  rw [lay_iff n 1 (by omega), bts_eq.1]; exact decide_eq_true ⟨by omega, by omega, by rw [show zer 1 = 0 from rfl]; omega⟩
theorem lay2 {n : Int} (h : -2048 ≤ n ∧ n < 2048) : layB n 2 = true := by
  rw [lay_iff n 2 (by omega), bts_eq.2.1]; exact decide_eq_true ⟨by omega, by omega, by rw [show zer 2 = 0 from rfl]; omega⟩
theorem lay3 {n : Int} (h : -4096 ≤ n ∧ n < 4096 ∧ n % 2 = 0) : layB n 3 = true := by
  rw [lay_iff n 3 (by omega), bts_eq.2.2.1]; exact decide_eq_true ⟨by omega, by omega, by rw [show zer 3 = 1 from rfl]; omega⟩
theorem lay4 {n : Int} (h : -2147483648 ≤ n ∧ n < 2147483648 ∧ n % 4096 = 0) : layB n 4 = true := by
  rw [lay_iff n 4 (by omega), bts_eq.2.2.2.1]; exact decide_eq_true ⟨by omega, by omega, by rw [show zer 4 = 12 from rfl]; omega⟩
theorem lay5 {n : Int} (h : -1048576 ≤ n ∧ n < 1048576 ∧ n % 2 = 0) : layB n 5 = true := by
  rw [lay_iff n 5 (by omega), bts_eq.2.2.2.2]; exact decide_eq_true ⟨by omega, by omega, by rw [show zer 5 = 1 from rfl]; omega⟩
/-- What a word can say is laid as a word that says it. -/
theorem lay_word (o : Int) (p : Parts) (h : Can o p) : layW o p < 4294967296 ∧ D.wordV (layW o p) = (o, p) := by
  obtain ⟨rd, rs1, rs2, im⟩ := p
  obtain ⟨ho, ⟨r1, r2⟩, ⟨s1, s2⟩, ⟨t1, t2⟩, hl⟩ := h
  simp only at r1 r2 s1 s2 t1 t2 hl
  obtain ⟨a, rfl⟩ : ∃ n : Nat, rd = n := ⟨rd.toNat, by omega⟩
  obtain ⟨b, rfl⟩ : ∃ n : Nat, rs1 = n := ⟨rs1.toNat, by omega⟩
  obtain ⟨c, rfl⟩ : ∃ n : Nat, rs2 = n := ⟨rs2.toNat, by omega⟩
  have ha : a < 32 := by omega
  have hb : b < 32 := by omega
  have hc : c < 32 := by omega
  clear r1 r2 s1 s2 t1 t2
  unfold layW
  simp only [Int.toNat_natCast]
  rcases (show o ≤ 0 ∨ (1 ≤ o ∧ o ≤ 2) ∨ (3 ≤ o ∧ o ≤ 3) ∨ (4 ≤ o ∧ o ≤ 4) ∨ (5 ≤ o ∧ o ≤ 10) ∨ (11 ≤ o ∧ o ≤ 17) ∨ (18 ≤ o ∧ o ≤ 21) ∨ (22 ≤ o ∧ o ≤ 27) ∨ (28 ≤ o ∧ o ≤ 30) ∨ (31 ≤ o ∧ o ≤ 40) ∨ (41 ≤ o ∧ o ≤ 41) ∨ (42 ≤ o ∧ o ≤ 44) ∨ (45 ≤ o ∧ o ≤ 62) ∨ (63 ≤ o ∧ o ≤ 68) ∨ (69 ≤ o ∧ o ≤ 69) ∨ (70 ≤ o ∧ o ≤ 75) ∨ (76 ≤ o ∧ o ≤ 76) ∨ (77 ≤ o ∧ o ≤ 86) ∨ (87 ≤ o ∧ o ≤ 87) ∨ (88 ≤ o ∧ o ≤ 97) by omega) with h | h | h | h | h | h | h | h | h | h | h | h | h | h | h | h | h | h | h | h
  · rw [lim0 _ _ _ _ _ (by omega)] at hl
    rw [num0 o im (by omega)]
    obtain ⟨e1, e2, e3, rfl⟩ := hl
    obtain rfl : o = 0 := by omega
    obtain rfl : a = 0 := by omega
    obtain rfl : b = 0 := by omega
    obtain rfl : c = 0 := by omega
    exact ⟨by decide, by decide +kernel⟩
  · rw [lim1 _ _ _ _ _ (by omega)] at hl
    rw [num1 o im (by omega)]
    obtain ⟨e2, e3, hi⟩ := hl
    obtain rfl : b = 0 := by omega
    obtain rfl : c = 0 := by omega
    exact fam_tgt (by omega) (fun x => shape1 o x (by omega)) ha (lay4 hi) (rng_at (a := 1) (b := 2) (P := tgtOk 4) (by decide +kernel) o (by omega))
  · rw [lim2 _ _ _ _ _ (by omega)] at hl
    rw [num2 o im (by omega)]
    obtain ⟨e2, e3, hi⟩ := hl
    obtain rfl : b = 0 := by omega
    obtain rfl : c = 0 := by omega
    exact fam_tgt (by omega) (fun x => shape2 o x (by omega)) ha (lay5 hi) (rng_at (a := 3) (b := 3) (P := tgtOk 5) (by decide +kernel) o (by omega))
  · rw [lim3 _ _ _ _ _ (by omega)] at hl
    rw [num3 o im (by omega)]
    obtain ⟨e3, hi⟩ := hl
    obtain rfl : c = 0 := by omega
    exact fam_src (by omega) (fun x => shape3 o x (by omega)) ha hb (lay1 hi) (rng_at (a := 4) (b := 4) (P := srcOk 1) (by decide +kernel) o (by omega))
  · rw [lim4 _ _ _ _ _ (by omega)] at hl
    rw [num4 o im (by omega)]
    obtain ⟨e1, hi⟩ := hl
    obtain rfl : a = 0 := by omega
    exact fam_par (by omega) (fun x => shape4 o x (by omega)) hb hc (lay3 hi) (rng_at (a := 5) (b := 10) (P := parOk 3) (by decide +kernel) o (by omega))
  · rw [lim5 _ _ _ _ _ (by omega)] at hl
    rw [num5 o im (by omega)]
    obtain ⟨e3, hi⟩ := hl
    obtain rfl : c = 0 := by omega
    exact fam_src (by omega) (fun x => shape5 o x (by omega)) ha hb (lay1 hi) (rng_at (a := 11) (b := 17) (P := srcOk 1) (by decide +kernel) o (by omega))
  · rw [lim6 _ _ _ _ _ (by omega)] at hl
    rw [num6 o im (by omega)]
    obtain ⟨e1, hi⟩ := hl
    obtain rfl : a = 0 := by omega
    exact fam_par (by omega) (fun x => shape6 o x (by omega)) hb hc (lay2 hi) (rng_at (a := 18) (b := 21) (P := parOk 2) (by decide +kernel) o (by omega))
  · rw [lim7 _ _ _ _ _ (by omega)] at hl
    rw [num7 o im (by omega)]
    obtain ⟨e3, hi⟩ := hl
    obtain rfl : c = 0 := by omega
    exact fam_src (by omega) (fun x => shape7 o x (by omega)) ha hb (lay1 hi) (rng_at (a := 22) (b := 27) (P := srcOk 1) (by decide +kernel) o (by omega))
  · rw [lim8 _ _ _ _ _ (by omega)] at hl
    rw [num7 o im (by omega)]
    obtain ⟨e3, hi⟩ := hl
    obtain rfl : c = 0 := by omega
    rw [lay_small im (by omega)]
    obtain ⟨n, rfl⟩ : ∃ n : Nat, im = n := ⟨im.toNat, by omega⟩
    rw [Int.toNat_natCast]
    exact fam_small (by omega) (by omega) (fun x => shape8 o x (by omega)) ha hb (show n < 2 ^ 6 by omega) (rng_at (a := 28) (b := 30) (P := smallOk 6) (by decide +kernel) o (by omega))
  · rw [lim9 _ _ _ _ _ (by omega)] at hl
    rw [num8 o im (by omega)]
    subst hl
    exact fam_thr (by omega) (fun x => shape9 o x (by omega)) ha hb hc (rng_at (a := 31) (b := 40) (P := thrOk) (by decide +kernel) o (by omega))
  · rw [lim10 _ _ _ _ _ (by omega)] at hl
    rw [num9 o im (by omega)]
    obtain ⟨e3, hi⟩ := hl
    obtain rfl : c = 0 := by omega
    exact fam_src (by omega) (fun x => shape10 o x (by omega)) ha hb (lay1 hi) (rng_at (a := 41) (b := 41) (P := srcOk 1) (by decide +kernel) o (by omega))
  · rw [lim11 _ _ _ _ _ (by omega)] at hl
    rw [num9 o im (by omega)]
    obtain ⟨e3, hi⟩ := hl
    obtain rfl : c = 0 := by omega
    rw [lay_small im (by omega)]
    obtain ⟨n, rfl⟩ : ∃ n : Nat, im = n := ⟨im.toNat, by omega⟩
    rw [Int.toNat_natCast]
    exact fam_small (by omega) (by omega) (fun x => shape11 o x (by omega)) ha hb (show n < 2 ^ 5 by omega) (rng_at (a := 42) (b := 44) (P := smallOk 5) (by decide +kernel) o (by omega))
  · rw [lim12 _ _ _ _ _ (by omega)] at hl
    rw [num10 o im (by omega)]
    subst hl
    exact fam_thr (by omega) (fun x => shape12 o x (by omega)) ha hb hc (rng_at (a := 45) (b := 62) (P := thrOk) (by decide +kernel) o (by omega))
  · rw [lim13 _ _ _ _ _ (by omega)] at hl
    rw [num10 o im (by omega)]
    obtain ⟨e1, e2, e3, rfl⟩ := hl
    obtain rfl : a = 0 := by omega
    obtain rfl : b = 0 := by omega
    obtain rfl : c = 0 := by omega
    exact fam_bar (by omega) (fun x => shape13 o x (by omega))
  · rw [lim14 _ _ _ _ _ (by omega)] at hl
    rw [num10 o im (by omega)]
    obtain ⟨e1, rfl⟩ := hl
    obtain rfl : a = 0 := by omega
    exact fam_par0 (by omega) (fun x => shape14 o x (by omega)) hb hc (rng_at (a := 69) (b := 69) (P := fun o => clear o 15 5 && clear o 20 5) (by decide +kernel) o (by omega))
  · rw [lim15 _ _ _ _ _ (by omega)] at hl
    rw [num11 o im (by omega)]
    obtain ⟨e3, hi⟩ := hl
    obtain rfl : c = 0 := by omega
    obtain ⟨n, rfl⟩ : ∃ n : Nat, im = n := ⟨im.toNat, by omega⟩
    rw [Int.toNat_natCast]
    exact fam_small (by omega) (by omega) (fun x => shape15 o x (by omega)) ha hb (show n < 2 ^ 12 by omega) (rng_at (a := 70) (b := 75) (P := smallOk 12) (by decide +kernel) o (by omega))
  · rw [lim16 _ _ _ _ _ (by omega)] at hl
    rw [num12 o im (by omega)]
    obtain ⟨e3, rfl⟩ := hl
    obtain rfl : c = 0 := by omega
    exact fam_src0 (by omega) (fun x => shape16 o x (by omega)) ha hb (rng_at (a := 76) (b := 76) (P := fun o => clear o 7 5 && clear o 15 5) (by decide +kernel) o (by omega))
  · rw [lim17 _ _ _ _ _ (by omega)] at hl
    rw [num12 o im (by omega)]
    subst hl
    exact fam_thr (by omega) (fun x => shape17 o x (by omega)) ha hb hc (rng_at (a := 77) (b := 86) (P := thrOk) (by decide +kernel) o (by omega))
  · rw [lim18 _ _ _ _ _ (by omega)] at hl
    rw [num12 o im (by omega)]
    obtain ⟨e3, rfl⟩ := hl
    obtain rfl : c = 0 := by omega
    exact fam_src0 (by omega) (fun x => shape18 o x (by omega)) ha hb (rng_at (a := 87) (b := 87) (P := fun o => clear o 7 5 && clear o 15 5) (by decide +kernel) o (by omega))
  · rw [lim19 _ _ _ _ _ (by omega)] at hl
    rw [num12 o im (by omega)]
    subst hl
    exact fam_thr (by omega) (fun x => shape19 o x (by omega)) ha hb hc (rng_at (a := 88) (b := 97) (P := thrOk) (by decide +kernel) o (by omega))

/-! ### No word of it is less -/
def Sub (a x : Nat) : Prop := a ||| x = x
theorem Sub.or {a b x : Nat} (ha : Sub a x) (hb : Sub b x) : Sub (a ||| b) x := by
  unfold Sub at *; rw [Nat.or_assoc, hb, ha]
theorem sub0 (x : Nat) : Sub 0 x := Nat.zero_or x
theorem Sub.le {a x : Nat} (h : Sub a x) : a ≤ x := by
  have : a ≤ a ||| x := Nat.left_le_or
  rw [h] at this; exact this
theorem get_sub (x l m : Nat) : Sub (get x l m <<< l) x := by
  apply Nat.eq_of_testBit_eq
  intro i
  rw [Nat.testBit_or, Nat.testBit_shiftLeft, get_bit]
  by_cases h : l ≤ i
  · rw [show l + (i - l) = i by omega]
    cases x.testBit i <;> simp
  · simp [h]
theorem has_sub {x : Nat} : ∀ L : Flds, Has L x → Sub (baseOf L) x
  | [], _ => sub0 x
  | q :: L, h => by
    have h1 : get x q.1 q.2.1 = q.2.2 := h q (by simp)
    have h2 := get_sub x q.1 q.2.1
    rw [h1] at h2
    exact h2.or (has_sub L fun q hq => h q (by simp [hq]))
theorem lay_sub2 (x : Nat) (f : Int) (h : 1 ≤ f ∧ f ≤ 5) (hx : x < 4294967296) : Sub (layV (immV x f) f) x := by
  have h1 := lay_sub x f h hx
  have h2 := layV_lt (immV x f) f
  apply Nat.eq_of_testBit_eq
  intro i
  have h3 : (layV (immV x f) f &&& (4294967295 - x)).testBit i = false := by rw [h1, Nat.zero_testBit]
  rw [Nat.testBit_and] at h3
  rw [Nat.testBit_or]
  by_cases hi : i < 32
  · have h4 : (4294967295 - x).testBit i = !x.testBit i := by
      have := Nat.testBit_two_pow_sub_succ (n := 32) (x := x) hx i
      rw [show 2 ^ 32 - (x + 1) = 4294967295 - x by omega] at this
      rw [this]; simp [hi]
    rw [h4] at h3
    cases hb : x.testBit i
    · rw [hb] at h3; simp at h3; simp [h3]
    · simp
  · have h5 : (layV (immV x f) f).testBit i = false := Nat.testBit_lt_two_pow (Nat.lt_of_lt_of_le h2 (Nat.pow_le_pow_right (n := 2) (by omega) (show 32 ≤ i by omega)))
    simp [h5]
theorem put_sub {B a b c N x : Nat} (hB : Sub B x) (ha : Sub (a <<< 7) x) (hb : Sub (b <<< 15) x) (hc : Sub (c <<< 20) x) (hN : Sub N x) : Sub (put B a b c N) x :=
  (((hB.or ha).or hb).or hc).or hN
theorem shl_sub0 (k x : Nat) : Sub (0 <<< k) x := by rw [Nat.zero_shiftLeft]; exact sub0 x
theorem lay_sub3 (x : Nat) (hx : x < 4294967296) (o : Int) (ho : 1 ≤ o ∧ o ≤ 97) (h : (D.wordV x).1 = o) : Sub (layW o (shape o x)) x := by
  have hB : Sub (baseV o) x := has_sub _ ((word_op x hx o ho).1 h)
  rcases (show (1 ≤ o ∧ o ≤ 2) ∨ (3 ≤ o ∧ o ≤ 3) ∨ (4 ≤ o ∧ o ≤ 4) ∨ (5 ≤ o ∧ o ≤ 10) ∨ (11 ≤ o ∧ o ≤ 17) ∨ (18 ≤ o ∧ o ≤ 21) ∨ (22 ≤ o ∧ o ≤ 27) ∨ (28 ≤ o ∧ o ≤ 30) ∨ (31 ≤ o ∧ o ≤ 40) ∨ (41 ≤ o ∧ o ≤ 41) ∨ (42 ≤ o ∧ o ≤ 44) ∨ (45 ≤ o ∧ o ≤ 62) ∨ (63 ≤ o ∧ o ≤ 68) ∨ (69 ≤ o ∧ o ≤ 69) ∨ (70 ≤ o ∧ o ≤ 75) ∨ (76 ≤ o ∧ o ≤ 76) ∨ (77 ≤ o ∧ o ≤ 86) ∨ (87 ≤ o ∧ o ≤ 87) ∨ (88 ≤ o ∧ o ≤ 97) by omega) with hr | hr | hr | hr | hr | hr | hr | hr | hr | hr | hr | hr | hr | hr | hr | hr | hr | hr | hr
  · rw [shape1 o x (by omega), tgt, layW]
    simp only
    rw [num1 o _ (by omega)]
    exact put_sub hB (get_sub x 7 5) (shl_sub0 15 x) (shl_sub0 20 x) (lay_sub2 x 4 (by omega) hx)
  · rw [shape2 o x (by omega), tgt, layW]
    simp only
    rw [num2 o _ (by omega)]
    exact put_sub hB (get_sub x 7 5) (shl_sub0 15 x) (shl_sub0 20 x) (lay_sub2 x 5 (by omega) hx)
  · rw [shape3 o x (by omega), src, layW]
    simp only
    rw [num3 o _ (by omega)]
    exact put_sub hB (get_sub x 7 5) (get_sub x 15 5) (shl_sub0 20 x) (lay_sub2 x 1 (by omega) hx)
  · rw [shape4 o x (by omega), par, layW]
    simp only
    rw [num4 o _ (by omega)]
    exact put_sub hB (shl_sub0 7 x) (get_sub x 15 5) (get_sub x 20 5) (lay_sub2 x 3 (by omega) hx)
  · rw [shape5 o x (by omega), src, layW]
    simp only
    rw [num5 o _ (by omega)]
    exact put_sub hB (get_sub x 7 5) (get_sub x 15 5) (shl_sub0 20 x) (lay_sub2 x 1 (by omega) hx)
  · rw [shape6 o x (by omega), par, layW]
    simp only
    rw [num6 o _ (by omega)]
    exact put_sub hB (shl_sub0 7 x) (get_sub x 15 5) (get_sub x 20 5) (lay_sub2 x 2 (by omega) hx)
  · rw [shape7 o x (by omega), src, layW]
    simp only
    rw [num7 o _ (by omega)]
    exact put_sub hB (get_sub x 7 5) (get_sub x 15 5) (shl_sub0 20 x) (lay_sub2 x 1 (by omega) hx)
  · rw [shape8 o x (by omega), src, layW]
    simp only
    rw [num7 o _ (by omega)]
    have hg := get_lt x 20 6
    rw [lay_small _ (by omega), Int.toNat_natCast]
    exact put_sub hB (get_sub x 7 5) (get_sub x 15 5) (shl_sub0 20 x) (get_sub x 20 6)
  · rw [shape9 o x (by omega), thr, layW]
    simp only
    rw [num8 o _ (by omega)]
    exact put_sub hB (get_sub x 7 5) (get_sub x 15 5) (get_sub x 20 5) (sub0 x)
  · rw [shape10 o x (by omega), src, layW]
    simp only
    rw [num9 o _ (by omega)]
    exact put_sub hB (get_sub x 7 5) (get_sub x 15 5) (shl_sub0 20 x) (lay_sub2 x 1 (by omega) hx)
  · rw [shape11 o x (by omega), src, layW]
    simp only
    rw [num9 o _ (by omega)]
    have hg := get_lt x 20 5
    rw [lay_small _ (by omega), Int.toNat_natCast]
    exact put_sub hB (get_sub x 7 5) (get_sub x 15 5) (shl_sub0 20 x) (get_sub x 20 5)
  · rw [shape12 o x (by omega), thr, layW]
    simp only
    rw [num10 o _ (by omega)]
    exact put_sub hB (get_sub x 7 5) (get_sub x 15 5) (get_sub x 20 5) (sub0 x)
  · rw [shape13 o x (by omega), bar, layW]
    simp only
    rw [num10 o _ (by omega)]
    exact put_sub hB (shl_sub0 7 x) (shl_sub0 15 x) (shl_sub0 20 x) (sub0 x)
  · rw [shape14 o x (by omega), par, layW]
    simp only
    rw [num10 o _ (by omega)]
    exact put_sub hB (shl_sub0 7 x) (get_sub x 15 5) (get_sub x 20 5) (sub0 x)
  · rw [shape15 o x (by omega), src, layW]
    simp only
    rw [num11 o _ (by omega)]
    rw [Int.toNat_natCast]
    exact put_sub hB (get_sub x 7 5) (get_sub x 15 5) (shl_sub0 20 x) (get_sub x 20 12)
  · rw [shape16 o x (by omega), src, layW]
    simp only
    rw [num12 o _ (by omega)]
    exact put_sub hB (get_sub x 7 5) (get_sub x 15 5) (shl_sub0 20 x) (sub0 x)
  · rw [shape17 o x (by omega), thr, layW]
    simp only
    rw [num12 o _ (by omega)]
    exact put_sub hB (get_sub x 7 5) (get_sub x 15 5) (get_sub x 20 5) (sub0 x)
  · rw [shape18 o x (by omega), src, layW]
    simp only
    rw [num12 o _ (by omega)]
    exact put_sub hB (get_sub x 7 5) (get_sub x 15 5) (shl_sub0 20 x) (sub0 x)
  · rw [shape19 o x (by omega), thr, layW]
    simp only
    rw [num12 o _ (by omega)]
    exact put_sub hB (get_sub x 7 5) (get_sub x 15 5) (get_sub x 20 5) (sub0 x)
/-- The word that the instruction of a word is laid as is no greater. -/
theorem lay_le (x : Nat) (hx : x < 4294967296) (h : (D.wordV x).1 ≠ 0) : layW (D.wordV x).1 (D.wordV x).2 ≤ x := by
  obtain ⟨h1, h2, h3⟩ := word_shape x
  have := (lay_sub3 x hx (D.wordV x).1 ⟨by omega, h2⟩ rfl).le
  rw [h3]; exact this
end Go.Proofs.YtpbeamnogfjagaaGreatDoor.D
