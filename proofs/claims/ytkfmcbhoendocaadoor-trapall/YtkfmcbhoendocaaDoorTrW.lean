/-
  Plain mathematics of layer 14, on: bit by bit, what a trap and the way back leave of Status; there and back; two traps, one within the other; legal registers stay so.
  Conditions: none; nothing here speaks of the program.
-/
import Derived.Test.YtkfmcbhoendocaaDoorTrV
namespace Go.Proofs.YtkfmcbhoendocaaDoor.J
open Go Go.RowKit W D A C
set_option linter.unusedVariables false

theorem tb_ent {s : Int} (hs : B64 s) (p : Int) (j : Nat) : tb (entV s p) j = if j = 1 then false else if j = 5 then tb s 1 else if j = 8 then (p == 1) else tb s j := by
  unfold entV
  rw [tb_with (with_bd (with_bd hs (by decide) _) (by decide) _) (by decide), tb_with (with_bd hs (by decide) _) (by decide), tb_with hs (by decide), tb_32, tb_2, tb_256, on_2 hs]
  by_cases h1 : j = 1
  · subst h1; cases tb s 1 <;> cases (p == 1) <;> rfl
  by_cases h5 : j = 5
  · subst h5; cases tb s 1 <;> cases tb s 5 <;> cases (p == 1) <;> rfl
  by_cases h8 : j = 8
  · subst h8; cases tb s 1 <;> cases tb s 8 <;> cases (p == 1) <;> rfl
  · rw [if_neg h1, if_neg h5, if_neg h8, decide_eq_false (show ¬ 5 = j from fun h => h5 h.symm), decide_eq_false (show ¬ 1 = j from fun h => h1 h.symm), decide_eq_false (show ¬ 8 = j from fun h => h8 h.symm)]
    cases tb s 1 <;> cases tb s j <;> cases (p == 1) <;> rfl
theorem tb_left {s : Int} (hs : B64 s) (j : Nat) : tb (leftV s) j = if j = 1 then tb s 5 else if j = 5 then true else if j = 8 then false else tb s j := by
  unfold leftV
  rw [tb_with (with_bd (with_bd hs (by decide) _) (by decide) _) (by decide), tb_with (with_bd hs (by decide) _) (by decide), tb_with hs (by decide), tb_32, tb_2, tb_256, on_32 hs]
  by_cases h1 : j = 1
  · subst h1; cases tb s 5 <;> cases tb s 1 <;> rfl
  by_cases h5 : j = 5
  · subst h5; cases tb s 5 <;> rfl
  by_cases h8 : j = 8
  · subst h8; cases tb s 5 <;> cases tb s 8 <;> rfl
  · rw [if_neg h1, if_neg h5, if_neg h8, decide_eq_false (show ¬ 5 = j from fun h => h5 h.symm), decide_eq_false (show ¬ 1 = j from fun h => h1 h.symm), decide_eq_false (show ¬ 8 = j from fun h => h8 h.symm)]
    cases tb s 5 <;> cases tb s j <;> rfl
theorem sV_bd {x : Int} (hx : B64 x) : B64 (sV x) := stat_bd (a := 0) hx
theorem tb_sV {x : Int} (hx : B64 x) (j : Nat) : tb (sV x) j = (tb x j && tb 786722 j || tb 8589934592 j) := by
  show tb (orV (andV x 786722) 8589934592) j = _
  rw [tb_or (and_bd hx (by decide)) (by decide), tb_and hx (by decide)]
/-- A Status that is legal stays so where bits 1, 5, 8 alone are other. -/
theorem sV_like {a s : Int} (ha : B64 a) (hs : B64 s) (h : ∀ j, j ≠ 1 → j ≠ 5 → j ≠ 8 → tb s j = tb (sV a) j) : sV s = s := by
  refine tb_eq (sV_bd hs) hs fun j => ?_
  rw [tb_sV hs]
  by_cases h1 : j = 1
  · subst h1; rw [show tb 786722 1 = true by decide, show tb 8589934592 1 = false by decide]; cases tb s 1 <;> rfl
  by_cases h5 : j = 5
  · subst h5; rw [show tb 786722 5 = true by decide, show tb 8589934592 5 = false by decide]; cases tb s 5 <;> rfl
  by_cases h8 : j = 8
  · subst h8; rw [show tb 786722 8 = true by decide, show tb 8589934592 8 = false by decide]; cases tb s 8 <;> rfl
  · rw [h j h1 h5 h8, tb_sV ha]
    cases tb a j <;> cases tb 786722 j <;> cases tb 8589934592 j <;> rfl
theorem sV_ent {a : Int} (ha : B64 a) (p : Int) : sV (entV (sV a) p) = entV (sV a) p :=
  sV_like ha (ent_bd (sV_bd ha) p) fun j h1 h5 h8 => by rw [tb_ent (sV_bd ha), if_neg h1, if_neg h5, if_neg h8]
theorem sV_left {a : Int} (ha : B64 a) (p : Int) : sV (leftV (entV (sV a) p)) = leftV (entV (sV a) p) :=
  sV_like ha (left_bd (ent_bd (sV_bd ha) p)) fun j h1 h5 h8 => by rw [tb_left (ent_bd (sV_bd ha) p), if_neg h1, if_neg h5, if_neg h8, tb_ent (sV_bd ha), if_neg h1, if_neg h5, if_neg h8]
theorem ent_on2 {s : Int} (hs : B64 s) (p : Int) : onV (entV s p) 2 = false := by rw [on_2 (ent_bd hs p), tb_ent hs]; rfl
theorem ent_on32 {s : Int} (hs : B64 s) (p : Int) : onV (entV s p) 32 = onV s 2 := by rw [on_32 (ent_bd hs p), tb_ent hs, on_2 hs]; rfl
theorem ent_on256 {s : Int} (hs : B64 s) (p : Int) : onV (entV s p) 256 = (p == 1) := by rw [on_256 (ent_bd hs p), tb_ent hs]; rfl
theorem left_on2 {s : Int} (hs : B64 s) : onV (leftV s) 2 = onV s 32 := by rw [on_2 (left_bd hs), tb_left hs, on_32 hs]; rfl
theorem left_on32 {s : Int} (hs : B64 s) : onV (leftV s) 32 = true := by rw [on_32 (left_bd hs), tb_left hs]; rfl
theorem left_on256 {s : Int} (hs : B64 s) : onV (leftV s) 256 = false := by rw [on_256 (left_bd hs), tb_left hs]; rfl
theorem and_on {x y : Int} (hx : B64 x) (hy : B64 y) (k : Nat) (hk : k < 64) (h : onV x ((2 ^ k : Nat) : Int) = onV y ((2 ^ k : Nat) : Int)) : andV x ((2 ^ k : Nat) : Int) = andV y ((2 ^ k : Nat) : Int) := by
  have hb : B64 ((2 ^ k : Nat) : Int) := by
    have h2 := Nat.pow_lt_pow_right (a := 2) (by omega) hk
    generalize 2 ^ k = n at *
    unfold B64; omega
  rw [on_and hx k hk, on_and hy k hk] at h
  refine tb_eq (and_bd hx hb) (and_bd hy hb) fun j => ?_
  rw [tb_and hx hb, tb_and hy hb, tb_pow]
  by_cases e : k = j
  · subst e; rw [h]
  · rw [decide_eq_false e, Bool.and_false, Bool.and_false]
theorem back_sie {s : Int} (hs : B64 s) (p : Int) : andV (leftV (entV s p)) 2 = andV s 2 :=
  and_on (left_bd (ent_bd hs p)) hs 1 (by omega) ((left_on2 (ent_bd hs p)).trans (ent_on32 hs p))
theorem epc_not {x : Int} (hx : B64 x) : epcV x = notV x 1 := by
  refine tb_eq (epc_bd hx) (not_bd hx (by decide)) fun j => ?_
  unfold epcV
  rw [tb_and hx (by decide), tb_andNot hx (by decide), tb_1]
  by_cases h : j < 64
  · by_cases e : 0 = j
    · subst e; rw [show tb 18446744073709551614 0 = false by decide]; cases tb x 0 <;> rfl
    · rw [decide_eq_false e]
      have : tb 18446744073709551614 j = true := by
        have h2 := Nat.testBit_two_pow_sub_succ (n := 64) (x := 1) (by omega) j
        show (2 ^ 64 - (1 + 1)).testBit j = true
        rw [h2, show (1 : Nat) = 2 ^ 0 from rfl, Nat.testBit_two_pow, decide_eq_false e]
        simp [h]
      rw [this]; cases tb x j <;> rfl
  · obtain ⟨x, rfl, kx⟩ := hx.nat
    have : tb (x : Int) j = false := high_off kx h
    rw [this]; rfl
theorem epc_idem {x : Int} (hx : B64 x) : andV (epcV x) 18446744073709551614 = epcV x := and_idem x _ hx (by decide)
theorem priv_ent {s : Int} (hs : B64 s) (p : Int) (hp : p = 0 ∨ p = 1) : privV (entV s p) = p := by
  unfold privV
  rw [ent_on256 hs]
  rcases hp with rfl | rfl <;> rfl
theorem lets_ent {s : Int} (hs : B64 s) (p : Int) : letsV (entV s p) 1 = false := by
  unfold letsV
  rw [if_neg (by omega), if_pos rfl, ent_on2 hs]
theorem takes_ent {s : Int} (hs : B64 s) (p b : Int) : takesV (entV s p) b 1 = false := by unfold takesV; rw [lets_ent hs]; rfl
theorem take_ent {s : Int} (hs : B64 s) (p b : Int) : takeV (entV s p) b 1 = 0 := by unfold takeV; rw [lets_ent hs]; rfl
theorem and1i (b : Int) : bits .and .i64 b 1 = b % 2 := by
  show IntKind.i64.wrap ((BitVec.ofInt 64 b &&& BitVec.ofInt 64 1).toNat : Int) = _
  rw [BitVec.toNat_and, show (BitVec.ofInt 64 1).toNat = 2 ^ 1 - 1 from rfl, Nat.and_two_pow_sub_one_eq_mod, BitVec.toNat_ofInt, IntKind.wrap_i64]
  rw [show (2 : Nat) ^ 64 = 18446744073709551616 from rfl]
  omega
theorem and63i (b : Int) : bits .and .i64 b 63 = b % 64 := by
  show IntKind.i64.wrap ((BitVec.ofInt 64 b &&& BitVec.ofInt 64 63).toNat : Int) = _
  rw [BitVec.toNat_and, show (BitVec.ofInt 64 63).toNat = 2 ^ 6 - 1 from rfl, Nat.and_two_pow_sub_one_eq_mod, BitVec.toNat_ofInt, IntKind.wrap_i64]
  rw [show (2 : Nat) ^ 64 = 18446744073709551616 from rfl]
  omega
/-- Legal registers stay so by a trap, and by the way back. -/
theorem legal_enter {c : Cs} (hc : C.Good c) (p : Int) {pc : Int} (hp : B64 pc) (i : Bool) (k : Int) (v : Int) : legalV (enterV (legalV c) p pc i k v) = enterV (legalV c) p pc i k v := by
  have g := fun i => hc.get i
  obtain ⟨a0, a1, a2, a3, a4, a5, a6, a7, a8, a9, a10, a11, rfl⟩ := twelve hc.1
  have g0 : B64 a0 := g 0
  have g1 : B64 a1 := g 1
  have g2 : B64 a2 := g 2
  have g3 : B64 a3 := g 3
  have g8 : B64 a8 := g 8
  rw [legal_12, enter_12, legal_12, sV_ent g0, and_idem a1 _ g1 (by decide), and_idem a2 _ g2 (by decide), and_idem a3 _ g3 (by decide), epc_idem hp, and_idem a8 _ g8 (by decide), satp_idem]
theorem legal_back {c : Cs} (hc : C.Good c) (p : Int) {pc : Int} (hp : B64 pc) (i : Bool) (k : Int) (v : Int) : legalV (backV (enterV (legalV c) p pc i k v)) = backV (enterV (legalV c) p pc i k v) := by
  have g := fun i => hc.get i
  obtain ⟨a0, a1, a2, a3, a4, a5, a6, a7, a8, a9, a10, a11, rfl⟩ := twelve hc.1
  have g0 : B64 a0 := g 0
  have g1 : B64 a1 := g 1
  have g2 : B64 a2 := g 2
  have g3 : B64 a3 := g 3
  have g8 : B64 a8 := g 8
  rw [legal_12, enter_12, back_12, legal_12, sV_left g0, and_idem a1 _ g1 (by decide), and_idem a2 _ g2 (by decide), and_idem a3 _ g3 (by decide), epc_idem hp, and_idem a8 _ g8 (by decide), satp_idem]
/-- All that the law asks of a trap from registers that are legal, and of the way back. -/
theorem there_back {c : Cs} (hc : C.Good c) (p : Int) (hp : p = 0 ∨ p = 1) {pc : Int} (hpc : B64 pc) (i : Bool) (k v : Int) (hv : B64 v) :
    ∃ l0 l1 l2 l3 l4 l5 l6 l7 l8 l9 l10 l11 en le pe ca, legalV c = [l0, l1, l2, l3, l4, l5, l6, l7, l8, l9, l10, l11] ∧
      enterV (legalV c) p pc i k v = [en, l1, l2, l3, l4, pe, ca, v, l8, l9, l10, l11] ∧
      backV (enterV (legalV c) p pc i k v) = [le, l1, l2, l3, l4, pe, ca, v, l8, l9, l10, l11] ∧
      (∀ b, takesV en b 1 = false ∧ takeV en b 1 = 0) ∧ privV en = p ∧ bits .andNot .u64 pc 1 = pe ∧
      bits .and .u64 le 2 = bits .and .u64 l0 2 ∧ (bits .and .u64 le 32 == 0) = false ∧ (bits .and .u64 le 256 != 0) = false ∧
      legalV [en, l1, l2, l3, l4, pe, ca, v, l8, l9, l10, l11] = [en, l1, l2, l3, l4, pe, ca, v, l8, l9, l10, l11] ∧
      legalV [le, l1, l2, l3, l4, pe, ca, v, l8, l9, l10, l11] = [le, l1, l2, l3, l4, pe, ca, v, l8, l9, l10, l11] := by
  have h0 : B64 (gC c 0) := hc.get 0
  have hl := legal_good hc
  have e0 : gC (legalV c) 0 = sV (gC c 0) := by
    obtain ⟨a0, a1, a2, a3, a4, a5, a6, a7, a8, a9, a10, a11, rfl⟩ := twelve hc.1
    rfl
  have hE := legal_enter hc p hpc i k v
  have hB := legal_back hc p hpc i k v
  have hs : B64 (sV (gC c 0)) := sV_bd h0
  obtain ⟨l0, l1, l2, l3, l4, l5, l6, l7, l8, l9, l10, l11, el⟩ := twelve hl.1
  rw [el] at e0 hE hB ⊢
  have e0 : l0 = sV (gC c 0) := e0
  rw [← e0] at hs
  rw [enter_12, back_12] at hB
  rw [enter_12] at hE
  refine ⟨l0, l1, l2, l3, l4, l5, l6, l7, l8, l9, l10, l11, entV l0 p, leftV (entV l0 p), epcV pc, causeV i k, rfl, enter_12 .., ?_, fun b => ⟨takes_ent hs p b, take_ent hs p b⟩, priv_ent hs p hp, (epc_not hpc).symm, back_sie hs p, ?_, ?_, hE, hB⟩
  · rw [enter_12, back_12]
  · have := left_on32 (ent_bd hs p)
    unfold onV andV at this
    simpa using this
  · have := left_on256 (ent_bd hs p)
    unfold onV andV at this
    exact this
/-- The three bits, put back. -/
theorem ent_keep {s : Int} (hs : B64 s) (p : Int) : orV (notV (entV s p) 290) (andV s 290) = s := by
  refine tb_eq (or_bd (not_bd (ent_bd hs p) (by decide)) (and_bd hs (by decide))) hs fun j => ?_
  rw [tb_or (not_bd (ent_bd hs p) (by decide)) (and_bd hs (by decide)), tb_andNot (ent_bd hs p) (by decide), tb_and hs (by decide), tb_ent hs]
  by_cases h1 : j = 1
  · subst h1; rw [show tb 290 1 = true by decide]; cases tb s 1 <;> rfl
  by_cases h5 : j = 5
  · subst h5; rw [show tb 290 5 = true by decide]; cases tb s 1 <;> cases tb s 5 <;> rfl
  by_cases h8 : j = 8
  · subst h8; rw [show tb 290 8 = true by decide]; cases (p == 1) <;> cases tb s 8 <;> rfl
  · rw [if_neg h1, if_neg h5, if_neg h8]
    cases tb s j <;> cases tb 290 j <;> rfl
/-- What the law reckons: the cause, and where a trap goes on. -/
theorem cause_top (k : Int) (hk : 0 ≤ k ∧ k < 64) : causeV false k = k ∧ bits .or .u64 0 k = k ∧ bits .or .u64 9223372036854775808 k = causeV true k := by
  have hb : B64 k := by unfold B64; omega
  have hw : IntKind.u64.wrap k = k := by rw [u64_eq]; omega
  refine ⟨by unfold causeV; rw [if_neg (by decide), hw], ?_, ?_⟩
  · refine tb_eq (or_bd (by decide) hb) hb fun j => ?_
    show tb (orV 0 k) j = _
    rw [tb_or (by decide) hb, tb_zero]; rfl
  · unfold causeV
    rw [if_pos rfl, hw]
    have : IntKind.u64.wrap (k + 9223372036854775808) = k + 9223372036854775808 := by rw [u64_eq]; omega
    rw [this]
    obtain ⟨n, rfl, hn⟩ := hb.nat
    have h1 : n < 2 ^ 63 := by omega
    have e2 := Nat.two_pow_add_eq_or_of_lt h1 1
    rw [show 2 ^ 63 * 1 = 9223372036854775808 from rfl] at e2
    have e := orV_nat 9223372036854775808 n (by omega) hn
    unfold orV at e
    rw [show (9223372036854775808 : Int) = ((9223372036854775808 : Nat) : Int) from rfl, e]
    omega
theorem hand_f (t k : Int) : handV t false k = notV t 3 := rfl
theorem hand_tf (t k : Int) (h : onV t 1 = false) : handV t true k = notV t 3 := by unfold handV; rw [h]; rfl
theorem hand_tt (t k : Int) (h : onV t 1 = true) (hk : 0 ≤ k ∧ k < 64) : handV t true k = IntKind.u64.wrap (notV t 3 + 4 * k) := by
  unfold handV; rw [h, Bool.true_and, if_pos rfl, show IntKind.u64.wrap k = k by rw [u64_eq]; omega, show IntKind.u64.wrap (4 * k) = 4 * k by rw [u64_eq]; omega]
theorem on_one {t : Int} (ht : B64 t) : (bits .and .u64 t 1 == 1) = onV t 1 := by
  rw [on_1 ht]
  have := on_div ht 0 (by omega)
  rw [and_1 t ht, ← this]
  simp
/-- As the document's own reckons. -/
theorem epc_sub {x : Int} (hx : B64 x) : x - x % 2 = epcV x := (epc_eq 0 x hx).symm
theorem and3 {t : Int} (ht : B64 t) : notV t 3 = t - t % 4 := by
  obtain ⟨t, rfl, kt⟩ := ht.nat
  have h := split64 t 3 kt (by omega)
  rw [show notV (t : Int) 3 = ((t &&& (18446744073709551615 - 3) : Nat) : Int) from not_nat t 3 kt (by omega)]
  have e : t &&& 3 = t % 4 := Nat.and_two_pow_sub_one_eq_mod t 2
  rw [show 18446744073709551615 - 3 = cN 3 from rfl]
  omega
theorem hand_mod {t : Int} (ht : B64 t) (i : Bool) (k : Int) : handV t i k = if (i && (t % 2 == 1)) = true then IntKind.u64.wrap (t - t % 4 + IntKind.u64.wrap (4 * IntKind.u64.wrap k)) else t - t % 4 := by
  unfold handV
  rw [and3 ht, ← on_one ht, and_1 t ht]
end Go.Proofs.YtkfmcbhoendocaaDoor.J
