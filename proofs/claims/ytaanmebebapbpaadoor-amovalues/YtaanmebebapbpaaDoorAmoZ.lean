/-
  Plain mathematics of layer 8's ops, on: what does not matter, what is kept, and which way about.
  Conditions: none; nothing here speaks of the program.
-/
import Derived.Test.YtaanmebebapbpaaDoorAmoX
namespace Go.Proofs.YtaanmebebapbpaaDoor.A
open Go Go.RowKit W D
set_option linter.unusedVariables false
set_option maxRecDepth 100000

theorem ofSmall (o a b : Int) (h : kindV o = 13) : newV o a b = dblV (o + 11) (sextV a 32) (sextV b 32) % 4294967296 := by
  rw [newV, if_pos h, toldV, if_pos h, toldV, if_pos h]
/-- Of 32 bits the higher halves do not matter. -/
theorem small_cong (o a b c d : Int) (h : kindV o = 13) (h1 : c % 4294967296 = a % 4294967296) (h2 : d % 4294967296 = b % 4294967296) : newV o c d = newV o a b := by
  rw [ofSmall o c d h, ofSmall o a b h, sextV_cong c a h1, sextV_cong d b h2]
theorem small_bd (o a b : Int) (h : kindV o = 13) : 0 ≤ newV o a b ∧ newV o a b < 4294967296 := by
  rw [ofSmall o a b h]; omega
theorem xor_comm (a b : Int) (ha : B64 a) (hb : B64 b) : xorV a b = xorV b a := by
  obtain ⟨n, rfl, hn⟩ := ha.nat
  obtain ⟨m, rfl, hm⟩ := hb.nat
  rw [xorV_nat n m hn hm, xorV_nat m n hm hn, Nat.xor_comm]
theorem and_comm' (a b : Int) (ha : B64 a) (hb : B64 b) : andV a b = andV b a := by
  obtain ⟨n, rfl, hn⟩ := ha.nat
  obtain ⟨m, rfl, hm⟩ := hb.nat
  rw [andV_nat n m hn hm, andV_nat m n hm hn, Nat.and_comm]
theorem or_comm' (a b : Int) (ha : B64 a) (hb : B64 b) : orV a b = orV b a := by
  obtain ⟨n, rfl, hn⟩ := ha.nat
  obtain ⟨m, rfl, hm⟩ := hb.nat
  rw [orV_nat n m hn hm, orV_nat m n hm hn, Nat.or_comm]
theorem sum_comm (a b : Int) : sumV a b = sumV b a := by unfold sumV; rw [Int.add_comm]
theorem minU_comm (a b : Int) : minU a b = minU b a := by unfold minU; split <;> split <;> omega
theorem maxU_comm (a b : Int) : maxU a b = maxU b a := by unfold maxU; split <;> split <;> omega
theorem w64_inj (a b : Int) (ha : B64 a) (hb : B64 b) (h : wrap64 a = wrap64 b) : a = b := by
  unfold B64 at *; rw [w64_def, w64_def] at h; omega
theorem minS_comm (a b : Int) (ha : B64 a) (hb : B64 b) : minS a b = minS b a := by
  unfold minS
  by_cases h : wrap64 a = wrap64 b
  · rw [w64_inj a b ha hb h]
  · split <;> split <;> first | rfl | omega
theorem maxS_comm (a b : Int) (ha : B64 a) (hb : B64 b) : maxS a b = maxS b a := by
  unfold maxS
  by_cases h : wrap64 a = wrap64 b
  · rw [w64_inj a b ha hb h]
  · split <;> split <;> first | rfl | omega
theorem minU_or (a b : Int) : minU a b = a ∨ minU a b = b := by unfold minU; split <;> simp
theorem maxU_or (a b : Int) : maxU a b = a ∨ maxU a b = b := by unfold maxU; split <;> simp
theorem minS_or (a b : Int) : minS a b = a ∨ minS a b = b := by unfold minS; split <;> simp
theorem maxS_or (a b : Int) : maxS a b = a ∨ maxS a b = b := by unfold maxS; split <;> simp
/-- What stands in memory does not hang on which of both was there. -/
theorem dbl_comm (o a b : Int) (ha : B64 a) (hb : B64 b) (h : 90 ≤ o ∧ o ≤ 97) : dblV o a b = dblV o b a := by
  have h8 : o = 90 ∨ o = 91 ∨ o = 92 ∨ o = 93 ∨ o = 94 ∨ o = 95 ∨ o = 96 ∨ o = 97 := by omega
  rcases h8 with rfl | rfl | rfl | rfl | rfl | rfl | rfl | rfl
  · exact sum_comm a b
  · exact xor_comm a b ha hb
  · exact and_comm' a b ha hb
  · exact or_comm' a b ha hb
  · exact minS_comm a b ha hb
  · exact maxS_comm a b ha hb
  · exact minU_comm a b
  · exact maxU_comm a b
theorem dbl_or (o a b : Int) (h : 94 ≤ o ∧ o ≤ 97) : dblV o a b = a ∨ dblV o a b = b := by
  have h4 : o = 94 ∨ o = 95 ∨ o = 96 ∨ o = 97 := by omega
  rcases h4 with rfl | rfl | rfl | rfl
  · exact minS_or a b
  · exact maxS_or a b
  · exact minU_or a b
  · exact maxU_or a b
theorem k13 (o : Int) (h : 76 ≤ o ∧ o ≤ 86) : kindV o = 13 := by
  have h11 : o = 76 ∨ o = 77 ∨ o = 78 ∨ o = 79 ∨ o = 80 ∨ o = 81 ∨ o = 82 ∨ o = 83 ∨ o = 84 ∨ o = 85 ∨ o = 86 := by omega
  rcases h11 with rfl | rfl | rfl | rfl | rfl | rfl | rfl | rfl | rfl | rfl | rfl <;> decide +kernel
theorem k14 (o : Int) (h : 87 ≤ o ∧ o ≤ 97) : kindV o = 14 := by
  have h11 : o = 87 ∨ o = 88 ∨ o = 89 ∨ o = 90 ∨ o = 91 ∨ o = 92 ∨ o = 93 ∨ o = 94 ∨ o = 95 ∨ o = 96 ∨ o = 97 := by omega
  rcases h11 with rfl | rfl | rfl | rfl | rfl | rfl | rfl | rfl | rfl | rfl | rfl <;> decide +kernel
theorem sz_small (o : Int) (h : 76 ≤ o ∧ o ≤ 86) : szV o = 4 := by rw [szV, if_pos (k13 o h)]
theorem sz_big (o : Int) (h : 87 ≤ o ∧ o ≤ 97) : szV o = 8 := by rw [szV, if_neg (by rw [k14 o h]; decide), if_pos (k14 o h)]
theorem small_comm (o a b : Int) (ha : B64 a) (hb : B64 b) (h : 79 ≤ o ∧ o ≤ 86) : newV o b a = newV o a b := by
  rw [ofSmall o b a (k13 o (by omega)), ofSmall o a b (k13 o (by omega)), dbl_comm _ _ _ (sextV_bd b 32 hb) (sextV_bd a 32 ha) (by omega)]
theorem big_comm (o a b : Int) (ha : B64 a) (hb : B64 b) (h : 90 ≤ o ∧ o ≤ 97) : newV o b a = newV o a b := by
  have k := k14 o (by omega)
  rw [newV, newV, if_neg (by omega), if_neg (by omega), dbl_comm o b a hb ha h]
theorem small_or (o a b : Int) (h : 83 ≤ o ∧ o ≤ 86) : newV o a b = a % 4294967296 ∨ newV o a b = b % 4294967296 := by
  rw [ofSmall o a b (k13 o (by omega))]
  rcases dbl_or (o + 11) (sextV a 32) (sextV b 32) (by omega) with e | e
  · rw [e, sextV_mod]; exact Or.inl rfl
  · rw [e, sextV_mod]; exact Or.inr rfl
theorem big_or (o a b : Int) (h : 94 ≤ o ∧ o ≤ 97) : newV o a b = a ∨ newV o a b = b := by
  have k := k14 o (by omega)
  rw [newV, if_neg (by omega)]
  exact dbl_or o a b h
end Go.Proofs.YtaanmebebapbpaaDoor.A
