/-
  Plain mathematics of layer 9, on: what sets bits, and clears them, sets and clears these alone.
  Conditions: none; nothing here speaks of the program.
-/
import Derived.Test.YtlbhkmigbnhngaaCsrP
namespace Go.Proofs.Ytlbhkmigbnhngaa.C
open Go Go.RowKit W D A
set_option linter.unusedVariables false

theorem sub_zero {a b : Nat} (ha : a < 18446744073709551616) (hb : b < 18446744073709551616) (h : ∀ i, a.testBit i = true → b.testBit i = true) : notV (a : Int) (b : Int) = 0 := by
  rw [not_nat a b ha hb, show 18446744073709551615 - b = cN b from rfl]
  have : a &&& cN b = 0 := bits_eq fun i => by
    rw [tb_not a b i ha hb, Nat.zero_testBit]
    cases e : a.testBit i
    · rfl
    · rw [h i e]; rfl
  rw [this]; rfl
theorem dis_zero {a b : Nat} (ha : a < 18446744073709551616) (hb : b < 18446744073709551616) (h : ∀ i, (a.testBit i && b.testBit i) = false) : andV (a : Int) (b : Int) = 0 := by
  rw [andV_nat a b ha hb]
  have : a &&& b = 0 := bits_eq fun i => by rw [Nat.testBit_and, Nat.zero_testBit]; exact h i
  rw [this]; rfl
/-- What the law asks of what was, of what is set and cleared. -/
def Sets (w x u d : Int) : Prop := notV u (orV w x) = 0 ∧ notV w u = 0 ∧ notV d w = 0
theorem sets_only (a m x : Int) (ha : B64 a) (hm : B64 m) (hx : B64 x) : Sets (andV a m) x (andV (orV (andV a m) x) m) (andV (notV (andV a m) x) m) ∧ andV (andV (notV (andV a m) x) m) x = 0 := by
  obtain ⟨a, rfl, ha⟩ := ha.nat
  obtain ⟨m, rfl, km⟩ := hm.nat
  obtain ⟨x, rfl, kx⟩ := hx.nat
  have hw : a &&& m < 18446744073709551616 := and_lt a km
  have ho : (a &&& m) ||| x < 18446744073709551616 := or_lt hw kx
  have hn : (a &&& m) &&& cN x < 18446744073709551616 := and_lt _ (cN_lt x)
  unfold Sets
  rw [andV_nat a m (by assumption) km, orV_nat _ x hw kx, andV_nat _ m ho km, not_nat _ x hw kx, show 18446744073709551615 - x = cN x from rfl, andV_nat _ m hn km]
  refine ⟨⟨sub_zero (and_lt _ km) ho fun i h => ?_, sub_zero hw (and_lt _ km) fun i h => ?_, sub_zero (and_lt _ km) hw fun i h => ?_⟩, dis_zero (and_lt _ km) kx fun i => ?_⟩
  · rw [Nat.testBit_and] at h; revert h; cases ((a &&& m) ||| x).testBit i <;> simp
  · rw [Nat.testBit_and, Nat.testBit_or, h]
    rw [Nat.testBit_and] at h
    revert h; cases a.testBit i <;> cases m.testBit i <;> simp
  · rw [Nat.testBit_and, tb_not _ x i hw kx] at h
    revert h; cases (a &&& m).testBit i <;> simp
  · rw [Nat.testBit_and, tb_not _ x i hw kx]
    cases (a &&& m).testBit i <;> cases x.testBit i <;> cases m.testBit i <;> rfl
theorem sets_all (a x : Int) (ha : B64 a) (hx : B64 x) : Sets a x (orV a x) (notV a x) ∧ andV (notV a x) x = 0 := by
  obtain ⟨a, rfl, ka⟩ := ha.nat
  obtain ⟨x, rfl, kx⟩ := hx.nat
  unfold Sets
  rw [orV_nat _ x ka kx, not_nat _ x ka kx, show 18446744073709551615 - x = cN x from rfl]
  refine ⟨⟨sub_zero (or_lt ka kx) (or_lt ka kx) fun i h => h, sub_zero ka (or_lt ka kx) fun i h => ?_, sub_zero (and_lt _ (cN_lt x)) ka fun i h => ?_⟩, dis_zero (and_lt _ (cN_lt x)) kx fun i => ?_⟩
  · rw [Nat.testBit_or, h]; rfl
  · rw [tb_not a x i ka kx] at h; revert h; cases a.testBit i <;> simp
  · rw [tb_not a x i ka kx]; cases a.testBit i <;> cases x.testBit i <;> rfl
theorem sets_stat (a x : Int) (ha : B64 a) (hx : B64 x) : Sets (sV a) x (sV (orV (sV a) x)) (sV (notV (sV a) x)) := by
  obtain ⟨a, rfl, ka⟩ := ha.nat
  obtain ⟨x, rfl, kx⟩ := hx.nat
  unfold Sets sV
  rw [stat_n 0 a ka, orV_nat _ x (sN_lt a) kx, not_nat _ x (sN_lt a) kx, show 18446744073709551615 - x = cN x from rfl, stat_n 0 _ (or_lt (sN_lt a) kx), stat_n 0 _ (and_lt _ (cN_lt x))]
  refine ⟨sub_zero (sN_lt _) (or_lt (sN_lt a) kx) fun i h => ?_, sub_zero (sN_lt _) (sN_lt _) fun i h => ?_, sub_zero (sN_lt _) (sN_lt _) fun i h => ?_⟩
  · rw [sN, Nat.testBit_or, Nat.testBit_and, Nat.testBit_or] at h
    rw [Nat.testBit_or]
    have e : (sN a).testBit i = (a.testBit i && (786722 : Nat).testBit i || (8589934592 : Nat).testBit i) := by rw [sN, Nat.testBit_or, Nat.testBit_and]
    rw [e] at h ⊢
    revert h
    cases a.testBit i <;> cases x.testBit i <;> cases (786722 : Nat).testBit i <;> cases (8589934592 : Nat).testBit i <;> simp
  · rw [sN, Nat.testBit_or, Nat.testBit_and, Nat.testBit_or, h]
    rw [sN, Nat.testBit_or, Nat.testBit_and] at h
    revert h
    cases a.testBit i <;> cases x.testBit i <;> cases (786722 : Nat).testBit i <;> cases (8589934592 : Nat).testBit i <;> simp
  · rw [sN, Nat.testBit_or, Nat.testBit_and, tb_not _ x i (sN_lt a) kx] at h
    have e : (sN a).testBit i = (a.testBit i && (786722 : Nat).testBit i || (8589934592 : Nat).testBit i) := by rw [sN, Nat.testBit_or, Nat.testBit_and]
    rw [e] at h ⊢
    revert h
    cases a.testBit i <;> cases x.testBit i <;> cases (786722 : Nat).testBit i <;> cases (8589934592 : Nat).testBit i <;> simp
theorem sets_ip (w x : Int) (hw : B64 w) (hx : B64 x) : Sets w x (ipV w (orV w x)) (ipV w (notV w x)) := by
  obtain ⟨w, rfl, kw⟩ := hw.nat
  obtain ⟨x, rfl, kx⟩ := hx.nat
  unfold Sets
  rw [orV_nat _ x kw kx, not_nat _ x kw kx, show 18446744073709551615 - x = cN x from rfl, ip_n w _ kw (or_lt kw kx), ip_n w _ kw (and_lt _ (cN_lt x))]
  have eu : ∀ i, (iN w (w ||| x)).testBit i = ((w.testBit i || x.testBit i) && (2 : Nat).testBit i || (w.testBit i && !(2 : Nat).testBit i)) := fun i => by
    rw [iN, Nat.testBit_or, Nat.testBit_and, Nat.testBit_or, tb_not w 2 i kw (by omega)]
  have ed : ∀ i, (iN w (w &&& cN x)).testBit i = ((w.testBit i && !x.testBit i) && (2 : Nat).testBit i || (w.testBit i && !(2 : Nat).testBit i)) := fun i => by
    rw [iN, Nat.testBit_or, Nat.testBit_and, tb_not w x i kw kx, tb_not w 2 i kw (by omega)]
  refine ⟨sub_zero (iN_lt _ _) (or_lt kw kx) fun i h => ?_, sub_zero kw (iN_lt _ _) fun i h => ?_, sub_zero (iN_lt _ _) kw fun i h => ?_⟩
  · rw [eu] at h; rw [Nat.testBit_or]; revert h
    cases w.testBit i <;> cases x.testBit i <;> cases (2 : Nat).testBit i <;> simp
  · rw [eu, h]; cases x.testBit i <;> cases (2 : Nat).testBit i <;> rfl
  · rw [ed] at h; revert h
    cases w.testBit i <;> cases x.testBit i <;> cases (2 : Nat).testBit i <;> simp
/-- Of each register that may be written, but Satp. -/
theorem sets_ten {c : Cs} (hc : Good c) (n t x : Int) (hx : B64 x) (h : ten n) (h9 : n ≠ 384) :
    Sets (readV (legalV c) n t) x (readV (writeV (legalV c) n (orV (readV (legalV c) n t) x)) n t) (readV (writeV (legalV c) n (notV (readV (legalV c) n t) x)) n t) ∧
    (andV (readV (writeV (legalV c) n (notV (readV (legalV c) n t) x)) n t) x = 0 ∨ n = 256 ∨ n = 324) := by
  have g := fun i => hc.get i
  obtain ⟨a0, a1, a2, a3, a4, a5, a6, a7, a8, a9, a10, a11, rfl⟩ := twelve hc.1
  rw [legal_12]
  rcases h with rfl | rfl | rfl | rfl | rfl | rfl | rfl | rfl | rfl | rfl
  · exact ⟨sets_stat a0 x (g 0) hx, Or.inr (Or.inl rfl)⟩
  · have := sets_only a1 546 x (g 1) (by decide) hx
    exact ⟨this.1, Or.inl this.2⟩
  · have := sets_only a2 18446744073709551613 x (g 2) (by decide) hx
    exact ⟨this.1, Or.inl this.2⟩
  · have := sets_only a3 7 x (g 3) (by decide) hx
    exact ⟨this.1, Or.inl this.2⟩
  · have := sets_all a4 x (g 4) hx
    exact ⟨this.1, Or.inl this.2⟩
  · have := sets_only a5 18446744073709551614 x (g 5) (by decide) hx
    exact ⟨this.1, Or.inl this.2⟩
  · have := sets_all a6 x (g 6) hx
    exact ⟨this.1, Or.inl this.2⟩
  · have := sets_all a7 x (g 7) hx
    exact ⟨this.1, Or.inl this.2⟩
  · exact ⟨sets_ip (andV a8 34) x (and_bd (g 8) (by decide)) hx, Or.inr (Or.inr rfl)⟩
  · exact absurd rfl h9
theorem may_ten (c : Cs) (n : Int) (h : ten n) (wr : Bool) : mayV c n 1 wr = true := by
  rcases h with rfl | rfl | rfl | rfl | rfl | rfl | rfl | rfl | rfl | rfl <;> rfl
theorem may_not (c : Cs) (n : Int) (h : ¬ ten n) : mayV c n 1 true = false := by
  rw [mayV, not_ten n h]
  split
  · rename_i e; cases e
  · split <;> rfl
end Go.Proofs.Ytlbhkmigbnhngaa.C
