/-
  Plain mathematics of layer 8, on: op by op, as the document's own answer has it; what the statements say.
  Conditions: none; nothing here speaks of the program.
-/
import Derived.Test.YtaanmebebapbpaaDoorAmoV
namespace Go.Proofs.YtaanmebebapbpaaDoor.A
open Go Go.RowKit W D
set_option linter.unusedVariables false
set_option maxRecDepth 100000

theorem sz_none (o : Int) (h : ¬ (76 ≤ o ∧ o ≤ 97)) : szV o = 0 := by
  unfold szV
  rw [if_neg (fun e => h (by have := kind13 o e; omega)), if_neg (fun e => h (by have := kind14 o e; omega))]
theorem look_none {α : Type} (o : Int) : ∀ L : List (Int × α), (∀ k f, (k, f) ∈ L → k ≠ o) → look L o = none
  | [], _ => rfl
  | (k, f) :: L, h => by
    rw [look, if_neg (fun e => h k f (by simp) e.symm)]
    exact look_none o L fun k f hm => h k f (by simp [hm])
theorem dbl_out (o a b : Int) (h : ¬ (88 ≤ o ∧ o ≤ 97)) : dblV o a b = a := by
  rw [dblV, look_none o tWork]
  intro k f hm
  simp only [tWork, List.mem_cons, Prod.mk.injEq, List.not_mem_nil, or_false] at hm
  omega
theorem ref_none (o a b : Int) (h : szV o = 0) : newV o a b = a := by
  have h13 : kindV o ≠ 13 := by intro e; rw [szV, if_pos e] at h; omega
  have h14 : kindV o ≠ 14 := by intro e; rw [szV, if_neg h13, if_pos e] at h; omega
  rw [newV, if_neg h13]
  apply dbl_out
  intro hr
  apply h14
  have h10 : o = 88 ∨ o = 89 ∨ o = 90 ∨ o = 91 ∨ o = 92 ∨ o = 93 ∨ o = 94 ∨ o = 95 ∨ o = 96 ∨ o = 97 := by omega
  rcases h10 with rfl | rfl | rfl | rfl | rfl | rfl | rfl | rfl | rfl | rfl <;> decide +kernel
theorem new_87 (a b : Int) : newV 87 a b = a := by rw [newV, if_neg (by decide +kernel)]; rfl
theorem new_88 (a b : Int) : newV 88 a b = b := by rw [newV, if_neg (by decide +kernel)]; rfl
theorem new_89 (a b : Int) : newV 89 a b = b := by rw [newV, if_neg (by decide +kernel)]; rfl
theorem new_90 (a b : Int) : newV 90 a b = sumV a b := by rw [newV, if_neg (by decide +kernel)]; rfl
theorem new_91 (a b : Int) : newV 91 a b = xorV a b := by rw [newV, if_neg (by decide +kernel)]; rfl
theorem new_92 (a b : Int) : newV 92 a b = andV a b := by rw [newV, if_neg (by decide +kernel)]; rfl
theorem new_93 (a b : Int) : newV 93 a b = orV a b := by rw [newV, if_neg (by decide +kernel)]; rfl
theorem new_94 (a b : Int) : newV 94 a b = minS a b := by rw [newV, if_neg (by decide +kernel)]; rfl
theorem new_95 (a b : Int) : newV 95 a b = maxS a b := by rw [newV, if_neg (by decide +kernel)]; rfl
theorem new_96 (a b : Int) : newV 96 a b = minU a b := by rw [newV, if_neg (by decide +kernel)]; rfl
theorem new_97 (a b : Int) : newV 97 a b = maxU a b := by rw [newV, if_neg (by decide +kernel)]; rfl
theorem new_76 (a b : Int) : newV 76 a b = (sextV a 32) % 4294967296 := by
  rw [newV, if_pos (by decide +kernel), toldV, if_pos (by decide +kernel), toldV, if_pos (by decide +kernel)]; rfl
theorem new_77 (a b : Int) : newV 77 a b = (sextV b 32) % 4294967296 := by
  rw [newV, if_pos (by decide +kernel), toldV, if_pos (by decide +kernel), toldV, if_pos (by decide +kernel)]; rfl
theorem new_78 (a b : Int) : newV 78 a b = (sextV b 32) % 4294967296 := by
  rw [newV, if_pos (by decide +kernel), toldV, if_pos (by decide +kernel), toldV, if_pos (by decide +kernel)]; rfl
theorem new_79 (a b : Int) : newV 79 a b = sumV (sextV a 32) (sextV b 32) % 4294967296 := by
  rw [newV, if_pos (by decide +kernel), toldV, if_pos (by decide +kernel), toldV, if_pos (by decide +kernel)]; rfl
theorem new_80 (a b : Int) : newV 80 a b = xorV (sextV a 32) (sextV b 32) % 4294967296 := by
  rw [newV, if_pos (by decide +kernel), toldV, if_pos (by decide +kernel), toldV, if_pos (by decide +kernel)]; rfl
theorem new_81 (a b : Int) : newV 81 a b = andV (sextV a 32) (sextV b 32) % 4294967296 := by
  rw [newV, if_pos (by decide +kernel), toldV, if_pos (by decide +kernel), toldV, if_pos (by decide +kernel)]; rfl
theorem new_82 (a b : Int) : newV 82 a b = orV (sextV a 32) (sextV b 32) % 4294967296 := by
  rw [newV, if_pos (by decide +kernel), toldV, if_pos (by decide +kernel), toldV, if_pos (by decide +kernel)]; rfl
theorem new_83 (a b : Int) : newV 83 a b = minS (sextV a 32) (sextV b 32) % 4294967296 := by
  rw [newV, if_pos (by decide +kernel), toldV, if_pos (by decide +kernel), toldV, if_pos (by decide +kernel)]; rfl
theorem new_84 (a b : Int) : newV 84 a b = maxS (sextV a 32) (sextV b 32) % 4294967296 := by
  rw [newV, if_pos (by decide +kernel), toldV, if_pos (by decide +kernel), toldV, if_pos (by decide +kernel)]; rfl
theorem new_85 (a b : Int) : newV 85 a b = minU (sextV a 32) (sextV b 32) % 4294967296 := by
  rw [newV, if_pos (by decide +kernel), toldV, if_pos (by decide +kernel), toldV, if_pos (by decide +kernel)]; rfl
theorem new_86 (a b : Int) : newV 86 a b = maxU (sextV a 32) (sextV b 32) % 4294967296 := by
  rw [newV, if_pos (by decide +kernel), toldV, if_pos (by decide +kernel), toldV, if_pos (by decide +kernel)]; rfl

/-! ### The lower 32 bits of bits -/
theorem low_xor (x y : Int) (hx : B64 x) (hy : B64 y) : xorV x y % 4294967296 = xorV (x % 4294967296) (y % 4294967296) % 4294967296 := by
  obtain ⟨n, rfl, hn⟩ := hx.nat
  obtain ⟨m, rfl, hm⟩ := hy.nat
  rw [show ((n : Int) % 4294967296) = ((n % 4294967296 : Nat) : Int) from by omega, show ((m : Int) % 4294967296) = ((m % 4294967296 : Nat) : Int) from by omega]
  rw [xorV_nat n m hn hm, xorV_nat _ _ (by omega) (by omega)]
  have e1 := Nat.xor_mod_two_pow (a := n) (b := m) (n := 32)
  have e2 := Nat.xor_mod_two_pow (a := n % 4294967296) (b := m % 4294967296) (n := 32)
  simp only [Nat.reducePow, Nat.mod_mod] at e1 e2
  have e3 : (n ^^^ m) % 4294967296 = (n % 4294967296 ^^^ m % 4294967296) % 4294967296 := by rw [e1, e2]
  generalize (n ^^^ m) = p at *
  generalize (n % 4294967296 ^^^ m % 4294967296) = q at *
  omega
theorem low_andV (x y : Int) (hx : B64 x) (hy : B64 y) : andV x y % 4294967296 = andV (x % 4294967296) (y % 4294967296) % 4294967296 := by
  obtain ⟨n, rfl, hn⟩ := hx.nat
  obtain ⟨m, rfl, hm⟩ := hy.nat
  rw [show ((n : Int) % 4294967296) = ((n % 4294967296 : Nat) : Int) from by omega, show ((m : Int) % 4294967296) = ((m % 4294967296 : Nat) : Int) from by omega]
  rw [andV_nat n m hn hm, andV_nat _ _ (by omega) (by omega)]
  have e1 := Nat.and_mod_two_pow (a := n) (b := m) (n := 32)
  have e2 := Nat.and_mod_two_pow (a := n % 4294967296) (b := m % 4294967296) (n := 32)
  simp only [Nat.reducePow, Nat.mod_mod] at e1 e2
  have e3 : (n &&& m) % 4294967296 = (n % 4294967296 &&& m % 4294967296) % 4294967296 := by rw [e1, e2]
  generalize (n &&& m) = p at *
  generalize (n % 4294967296 &&& m % 4294967296) = q at *
  omega
theorem low_orV (x y : Int) (hx : B64 x) (hy : B64 y) : orV x y % 4294967296 = orV (x % 4294967296) (y % 4294967296) % 4294967296 := by
  obtain ⟨n, rfl, hn⟩ := hx.nat
  obtain ⟨m, rfl, hm⟩ := hy.nat
  rw [show ((n : Int) % 4294967296) = ((n % 4294967296 : Nat) : Int) from by omega, show ((m : Int) % 4294967296) = ((m % 4294967296 : Nat) : Int) from by omega]
  rw [orV_nat n m hn hm, orV_nat _ _ (by omega) (by omega)]
  have e1 := Nat.or_mod_two_pow (a := n) (b := m) (n := 32)
  have e2 := Nat.or_mod_two_pow (a := n % 4294967296) (b := m % 4294967296) (n := 32)
  simp only [Nat.reducePow, Nat.mod_mod] at e1 e2
  have e3 : (n ||| m) % 4294967296 = (n % 4294967296 ||| m % 4294967296) % 4294967296 := by rw [e1, e2]
  generalize (n ||| m) = p at *
  generalize (n % 4294967296 ||| m % 4294967296) = q at *
  omega
/-- A number of 32 bits, extended. -/
theorem sext_cases (a : Int) (ha : B64 a) : (a % 4294967296 < 2147483648 ∧ sextV a 32 = a % 4294967296) ∨ (2147483648 ≤ a % 4294967296 ∧ sextV a 32 = a % 4294967296 + 18446744069414584320) := by
  rw [sextV_32, u64_eq, w32_def]
  by_cases h : a % 4294967296 < 2147483648
  · exact Or.inl ⟨h, by omega⟩
  · exact Or.inr ⟨by omega, by omega⟩

/-! ### As the document's own answer has it -/
theorem ref_87 (a b : Int) (ha : B64 a) (hb : B64 b) : newV 87 a b = a := new_87 a b
theorem ref_88 (a b : Int) (ha : B64 a) (hb : B64 b) : newV 88 a b = b := new_88 a b
theorem ref_89 (a b : Int) (ha : B64 a) (hb : B64 b) : newV 89 a b = b := new_89 a b
theorem ref_90 (a b : Int) (ha : B64 a) (hb : B64 b) : newV 90 a b = IntKind.u64.wrap (a + b) := new_90 a b
theorem ref_91 (a b : Int) (ha : B64 a) (hb : B64 b) : newV 91 a b = bits .xor .u64 a b := new_91 a b
theorem ref_92 (a b : Int) (ha : B64 a) (hb : B64 b) : newV 92 a b = bits .and .u64 a b := new_92 a b
theorem ref_93 (a b : Int) (ha : B64 a) (hb : B64 b) : newV 93 a b = bits .or .u64 a b := new_93 a b
theorem minS_bef (a b : Int) : minS a b = if befV b a true = true then b else a := by
  unfold minS befV ltS
  simp only [if_true, decide_eq_true_eq]
  by_cases h : wrap64 b < wrap64 a
  · rw [if_neg (by omega), if_pos h]
  · rw [if_pos (by omega), if_neg h]
theorem maxS_bef (a b : Int) (ha : B64 a) (hb : B64 b) : maxS a b = if befV a b true = true then b else a := by
  unfold maxS befV ltS
  simp only [if_true, decide_eq_true_eq]
  by_cases h : wrap64 a < wrap64 b
  · rw [if_pos (by omega), if_pos h]
  · rw [if_neg h]
    split
    · unfold B64 at ha hb
      rw [w64_def, w64_def] at *
      omega
    · rfl
theorem minU_bef (a b : Int) : minU a b = if befV b a false = true then b else a := by
  unfold minU befV ltU
  simp only [Bool.false_eq_true, if_false, decide_eq_true_eq]
  by_cases h : b < a
  · rw [if_neg (by omega), if_pos h]
  · rw [if_pos (by omega), if_neg h]
theorem maxU_bef (a b : Int) : maxU a b = if befV a b false = true then b else a := by
  unfold maxU befV ltU
  simp only [Bool.false_eq_true, if_false, decide_eq_true_eq]
  by_cases h : a < b
  · rw [if_pos (by omega), if_pos h]
  · rw [if_neg h]
    split <;> omega
theorem ref_94 (a b : Int) (ha : B64 a) (hb : B64 b) : newV 94 a b = if befV b a true = true then b else a := (new_94 a b).trans (minS_bef a b)
theorem ref_95 (a b : Int) (ha : B64 a) (hb : B64 b) : newV 95 a b = if befV a b true = true then b else a := (new_95 a b).trans (maxS_bef a b ha hb)
theorem ref_96 (a b : Int) (ha : B64 a) (hb : B64 b) : newV 96 a b = if befV b a false = true then b else a := (new_96 a b).trans (minU_bef a b)
theorem ref_97 (a b : Int) (ha : B64 a) (hb : B64 b) : newV 97 a b = if befV a b false = true then b else a := (new_97 a b).trans (maxU_bef a b)
theorem ref_76 (a b : Int) (ha : B64 a) (hb : B64 b) : newV 76 a b = a % 4294967296 := by rw [new_76, sextV_mod]
theorem ref_77 (a b : Int) (ha : B64 a) (hb : B64 b) : newV 77 a b = b % 4294967296 := by rw [new_77, sextV_mod]
theorem ref_78 (a b : Int) (ha : B64 a) (hb : B64 b) : newV 78 a b = b % 4294967296 := by rw [new_78, sextV_mod]
theorem ref_79 (a b : Int) (ha : B64 a) (hb : B64 b) : newV 79 a b = (a % 4294967296 + b % 4294967296) % 4294967296 := by
  rw [new_79, sumV, u64_mod32]
  have := sextV_mod a
  have := sextV_mod b
  generalize sextV a 32 = x at *
  generalize sextV b 32 = y at *
  omega
theorem ref_80 (a b : Int) (ha : B64 a) (hb : B64 b) : newV 80 a b = bits .xor .u64 (a % 4294967296) (b % 4294967296) % 4294967296 := by
  rw [new_80, low_xor _ _ (sextV_bd a 32 ha) (sextV_bd b 32 hb), sextV_mod, sextV_mod]; rfl
theorem ref_81 (a b : Int) (ha : B64 a) (hb : B64 b) : newV 81 a b = bits .and .u64 (a % 4294967296) (b % 4294967296) % 4294967296 := by
  rw [new_81, low_andV _ _ (sextV_bd a 32 ha) (sextV_bd b 32 hb), sextV_mod, sextV_mod]; rfl
theorem ref_82 (a b : Int) (ha : B64 a) (hb : B64 b) : newV 82 a b = bits .or .u64 (a % 4294967296) (b % 4294967296) % 4294967296 := by
  rw [new_82, low_orV _ _ (sextV_bd a 32 ha) (sextV_bd b 32 hb), sextV_mod, sextV_mod]; rfl
theorem ref_83 (a b : Int) (ha : B64 a) (hb : B64 b) : newV 83 a b = (if befV (sextV b 32) (sextV a 32) true = true then sextV b 32 else sextV a 32) % 4294967296 := by rw [new_83, minS_bef]
theorem ref_84 (a b : Int) (ha : B64 a) (hb : B64 b) : newV 84 a b = (if befV (sextV a 32) (sextV b 32) true = true then sextV b 32 else sextV a 32) % 4294967296 := by
  rw [new_84, maxS_bef _ _ (sextV_bd a 32 ha) (sextV_bd b 32 hb)]
theorem ref_85 (a b : Int) (ha : B64 a) (hb : B64 b) : newV 85 a b = if befV (b % 4294967296) (a % 4294967296) false = true then b % 4294967296 else a % 4294967296 := by
  rw [new_85, ← minU_bef]
  have h1 := sext_cases a ha
  have h2 := sext_cases b hb
  unfold minU
  split <;> split <;> omega
theorem ref_86 (a b : Int) (ha : B64 a) (hb : B64 b) : newV 86 a b = if befV (a % 4294967296) (b % 4294967296) false = true then b % 4294967296 else a % 4294967296 := by
  rw [new_86, ← maxU_bef]
  have h1 := sext_cases a ha
  have h2 := sext_cases b hb
  unfold maxU
  split <;> split <;> omega
end Go.Proofs.YtaanmebebapbpaaDoor.A
