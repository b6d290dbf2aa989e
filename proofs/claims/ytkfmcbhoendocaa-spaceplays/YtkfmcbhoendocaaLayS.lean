/-
  Plain mathematics of layer 13 (space): what an address becomes, and a load, a store, a fetch, over memory's bytes and a row of leaves.
  Plain mathematics of layer 13 (space): a fetch: two bytes, or four.
  Plain mathematics of layer 13 (space): a space without what keeps leaves: bytes one by one, and together.
  Plain mathematics of layer 13 (space): what was stored is loaded; accesses without a table.
  Conditions: each part's own: the arguments are numbers of their kinds; the tables hold what the program's text lays.
-/
import Derived.Test.YtkfmcbhoendocaaTlbT0
import Derived.Test.YtkfmcbhoendocaaLayK
import Derived.Test.YtkfmcbhoendocaaRamW
section
namespace Go.Proofs.Ytkfmcbhoendocaa.S
open Go Go.RowKit W D A P M K T
set_option linter.unusedVariables false

/-- The fault of an address of n bytes, and where it is. -/
def sF (bs : List Int) (L : List Lf) (sa st priv kind va n : Int) : Wr :=
  if (toFV bs L sa st priv kind va).isf = true then toFV bs L sa st priv kind va else
  if hasB bs.length (toRV bs L sa st priv kind va) n = true then foundV 0 0 false else faultV (naC kind) va
def sR (bs : List Int) (L : List Lf) (sa st priv kind va n : Int) : Int :=
  if (sF bs L sa st priv kind va n).isf = true then 0 else toRV bs L sa st priv kind va
/-- What an access's addresses are: a fault or the addresses; what is kept then, how many walks. -/
structure Ans where
  f : Wr
  all : List Int
  L : List Lf
  n : Int
def stepA (va i : Int) : Int := (va + i) % 18446744073709551616
/-- Byte by byte, k bytes from the i-th on. -/
def runV (bs : List Int) (most : Nat) (sa st priv kind va : Int) : Nat → Nat → List Lf → Int → Ans
  | 0, i, L, n => ⟨foundV 0 0 false, [], L, n⟩
  | k + 1, i, L, n =>
    if (sF bs L sa st priv kind (stepA va i) 1).isf = true then ⟨sF bs L sa st priv kind (stepA va i) 1, [], toLV bs most L sa st priv kind (stepA va i), toNV L n sa st priv kind (stepA va i)⟩ else
    if (runV bs most sa st priv kind va k (i + 1) (toLV bs most L sa st priv kind (stepA va i)) (toNV L n sa st priv kind (stepA va i))).f.isf = true then runV bs most sa st priv kind va k (i + 1) (toLV bs most L sa st priv kind (stepA va i)) (toNV L n sa st priv kind (stepA va i)) else
    { runV bs most sa st priv kind va k (i + 1) (toLV bs most L sa st priv kind (stepA va i)) (toNV L n sa st priv kind (stepA va i)) with all := sR bs L sa st priv kind (stepA va i) 1 :: (runV bs most sa st priv kind va k (i + 1) (toLV bs most L sa st priv kind (stepA va i)) (toNV L n sa st priv kind (stepA va i))).all }
/-- What came before is in front. -/
def inFront (acc : List Int) (r : Ans) : Ans := if r.f.isf = true then r else { r with all := acc ++ r.all }
theorem inFront_nil (r : Ans) : inFront [] r = r := by unfold inFront; split <;> rfl
/-- The addresses of m bytes from one on. -/
def rowA (x : Int) (m : Nat) : List Int := (List.range m).map fun (i : Nat) => stepA x i
def togV (bs : List Int) (most : Nat) (sa st priv kind va : Int) (m : Nat) (L : List Lf) (n : Int) : Ans :=
  ⟨sF bs L sa st priv kind va m, if (sF bs L sa st priv kind va m).isf = true then [] else rowA (sR bs L sa st priv kind va m) m, toLV bs most L sa st priv kind va, toNV L n sa st priv kind va⟩
def realsV (bs : List Int) (most : Nat) (sa st priv kind va : Int) (m : Nat) (L : List Lf) (n : Int) : Ans :=
  if va % m = 0 then togV bs most sa st priv kind va m L n else runV bs most sa st priv kind va m 0 L n
/-- The number that bytes at such addresses are. -/
def loadX (bs : List Int) (all : List Int) : Int := leV (all.map fun a => getV bs a 1)
def storeX : List Int → List Int → Int → List Int
  | bs, [], x => bs
  | bs, a :: r, x => storeX (putV bs a 1 x) r (x / 256)
theorem sR_64 {bs : List Int} {L : List Lf} {sa st priv kind va n : Int} (h : B64 (toRV bs L sa st priv kind va)) : B64 (sR bs L sa st priv kind va n) := by
  unfold sR
  split
  · unfold B64; omega
  · exact h
theorem step_64 (va i : Int) : B64 (stepA va i) := by unfold stepA B64; omega
theorem rowA_length (x : Int) (m : Nat) : (rowA x m).length = m := by simp [rowA]
end Go.Proofs.Ytkfmcbhoendocaa.S
end

section
namespace Go.Proofs.Ytkfmcbhoendocaa.S
open Go Go.RowKit W D A P M K T
set_option linter.unusedVariables false

theorem get2_bd {bs : List Int} (h : Byt bs) (a : Int) : 0 ≤ getV bs a 2 ∧ getV bs a 2 ≤ 65535 := by
  unfold getV
  split
  · have := leV_bd _ (take_byt (drop_byt h (offV a)) (2 : Int).toNat)
    have hl : ((bs.drop (offV a)).take (2 : Int).toNat).length ≤ 2 := by simp; omega
    have hp := p256_le hl
    omega
  · omega
/-- The half of an instruction at an address: 0 with a fault. -/
def halfV (bs : List Int) (L : List Lf) (sa st priv va : Int) : Int := if (sF bs L sa st priv 0 va 2).isf = true then 0 else getV bs (sR bs L sa st priv 0 va 2) 2
structure Fet where
  x : Int
  f : Wr
  L : List Lf
  n : Int
def fetchV (bs : List Int) (most : Nat) (sa st priv pc : Int) (L : List Lf) (n : Int) : Fet :=
  if ((sF bs L sa st priv 0 pc 2).isf || decide (halfV bs L sa st priv pc % 4 ≠ 3)) = true then ⟨halfV bs L sa st priv pc, sF bs L sa st priv 0 pc 2, toLV bs most L sa st priv 0 pc, toNV L n sa st priv 0 pc⟩ else
  if (sF bs (toLV bs most L sa st priv 0 pc) sa st priv 0 (stepA pc 2) 2).isf = true then ⟨0, sF bs (toLV bs most L sa st priv 0 pc) sa st priv 0 (stepA pc 2) 2, toLV bs most (toLV bs most L sa st priv 0 pc) sa st priv 0 (stepA pc 2), toNV (toLV bs most L sa st priv 0 pc) (toNV L n sa st priv 0 pc) sa st priv 0 (stepA pc 2)⟩ else
  ⟨halfV bs (toLV bs most L sa st priv 0 pc) sa st priv (stepA pc 2) * 65536 + halfV bs L sa st priv pc, sF bs (toLV bs most L sa st priv 0 pc) sa st priv 0 (stepA pc 2) 2, toLV bs most (toLV bs most L sa st priv 0 pc) sa st priv 0 (stepA pc 2), toNV (toLV bs most L sa st priv 0 pc) (toNV L n sa st priv 0 pc) sa st priv 0 (stepA pc 2)⟩
theorem half_bd {bs : List Int} (h : Byt bs) (L : List Lf) (sa st priv va : Int) : 0 ≤ halfV bs L sa st priv va ∧ halfV bs L sa st priv va ≤ 65535 := by
  unfold halfV
  split
  · omega
  · exact get2_bd h _
theorem and3_u32 (a : Int) (ha : 0 ≤ a ∧ a ≤ 65535) : bits .and .u32 a 3 = a % 4 := by
  obtain ⟨n, rfl⟩ : ∃ n : Nat, a = n := ⟨a.toNat, by omega⟩
  show IntKind.u32.wrap (((BitVec.ofInt 32 (n : Int) &&& BitVec.ofInt 32 ((2 ^ 2 - 1 : Nat) : Int)).toNat : Nat) : Int) = _
  rw [BitVec.toNat_and, BitVec.toNat_ofInt, BitVec.toNat_ofInt, IntKind.wrap_u32]
  have ex : ((n : Int) % ((2 ^ 32 : Nat) : Int)).toNat = n := by rw [show (2 : Nat) ^ 32 = 4294967296 from rfl]; omega
  rw [ex, show (((2 ^ 2 - 1 : Nat) : Int) % ((2 ^ 32 : Nat) : Int)).toNat = 2 ^ 2 - 1 from rfl, Nat.and_two_pow_sub_one_eq_mod]
  omega
theorem and3_u64 (a : Int) (ha : 0 ≤ a ∧ a ≤ 65535) : bits .and .u64 a 3 = a % 4 := by
  obtain ⟨n, rfl⟩ : ∃ n : Nat, a = n := ⟨a.toNat, by omega⟩
  show IntKind.u64.wrap (((BitVec.ofInt 64 (n : Int) &&& BitVec.ofInt 64 ((2 ^ 2 - 1 : Nat) : Int)).toNat : Nat) : Int) = _
  rw [BitVec.toNat_and, BitVec.toNat_ofInt, BitVec.toNat_ofInt, IntKind.wrap_u64]
  have ex : ((n : Int) % ((2 ^ 64 : Nat) : Int)).toNat = n := by rw [show (2 : Nat) ^ 64 = 18446744073709551616 from rfl]; omega
  rw [ex, show (((2 ^ 2 - 1 : Nat) : Int) % ((2 ^ 64 : Nat) : Int)).toNat = 2 ^ 2 - 1 from rfl, Nat.and_two_pow_sub_one_eq_mod]
  omega
theorem or_u32 (h l : Int) (hh : 0 ≤ h ∧ h ≤ 65535) (hl : 0 ≤ l ∧ l ≤ 65535) : bits .or .u32 (h * 65536) l = h * 65536 + l := by
  obtain ⟨x, rfl⟩ : ∃ n : Nat, h = n := ⟨h.toNat, by omega⟩
  obtain ⟨y, rfl⟩ : ∃ n : Nat, l = n := ⟨l.toNat, by omega⟩
  have e : (x : Int) * 65536 = ((2 ^ 16 * x : Nat) : Int) := by omega
  rw [e]
  show IntKind.u32.wrap (((BitVec.ofInt 32 ((2 ^ 16 * x : Nat) : Int) ||| BitVec.ofInt 32 (y : Int)).toNat : Nat) : Int) = _
  rw [BitVec.toNat_or, BitVec.toNat_ofInt, BitVec.toNat_ofInt, IntKind.wrap_u32]
  have ex : (((2 ^ 16 * x : Nat) : Int) % ((2 ^ 32 : Nat) : Int)).toNat = 2 ^ 16 * x := by rw [show (2 : Nat) ^ 32 = 4294967296 from rfl, show (2 : Nat) ^ 16 = 65536 from rfl]; omega
  have ey : ((y : Int) % ((2 ^ 32 : Nat) : Int)).toNat = y := by rw [show (2 : Nat) ^ 32 = 4294967296 from rfl]; omega
  rw [ex, ey, ← Nat.two_pow_add_eq_or_of_lt (by rw [show (2 : Nat) ^ 16 = 65536 from rfl]; omega)]
  rw [show (2 : Nat) ^ 16 = 65536 from rfl]
  omega
end Go.Proofs.Ytkfmcbhoendocaa.S
end

section
namespace Go.Proofs.Ytkfmcbhoendocaa.S
open Go Go.RowKit W D A P M K T
set_option linter.unusedVariables false

theorem nHit (sa st priv kind va : Int) : hitV [] sa st priv kind va = none := by
  unfold hitV
  split <;> rfl
theorem nR (bs : List Int) (sa st priv kind va : Int) : toRV bs [] sa st priv kind va = toV bs sa st priv kind va := by unfold toRV; rw [nHit]
theorem nF (bs : List Int) (sa st priv kind va : Int) : toFV bs [] sa st priv kind va = walkV bs sa st priv kind va := by unfold toFV; rw [nHit]
theorem nL (bs : List Int) (sa st priv kind va : Int) : toLV bs 0 [] sa st priv kind va = [] := by unfold toLV putT; split <;> rfl
section
variable {bs : List Int} {sa st priv kind va : Int}
/-- Each byte's fault, and address. -/
def bF (bs : List Int) (sa st priv kind va : Int) (j : Nat) : Wr := sF bs [] sa st priv kind (stepA va j) 1
def bX (bs : List Int) (sa st priv kind va : Int) (j : Nat) : Int := sR bs [] sa st priv kind (stepA va j) 1
theorem run_first : ∀ (k i : Nat) (n : Int) (j : Nat), i ≤ j → j < i + k → (∀ l, i ≤ l → l < j → (bF bs sa st priv kind va l).isf = false) → (bF bs sa st priv kind va j).isf = true →
    (runV bs 0 sa st priv kind va k i [] n).f = bF bs sa st priv kind va j ∧ (runV bs 0 sa st priv kind va k i [] n).all = []
  | 0, i, n, j, h1, h2, _, _ => by omega
  | k + 1, i, n, j, h1, h2, h3, h4 => by
    unfold runV
    rw [nL]
    by_cases e : i = j
    · subst e
      rw [if_pos (show (sF bs [] sa st priv kind (stepA va i) 1).isf = true from h4)]
      exact ⟨rfl, rfl⟩
    · have hi := h3 i (Nat.le_refl _) (by omega)
      rw [if_neg (by rw [show (sF bs [] sa st priv kind (stepA va i) 1).isf = false from hi]; decide)]
      obtain ⟨r1, r2⟩ := run_first k (i + 1) (toNV [] n sa st priv kind (stepA va i)) j (by omega) (by omega) (fun l hl => h3 l (by omega)) h4
      rw [if_pos (by rw [r1]; exact h4)]
      exact ⟨r1, r2⟩
theorem run_all : ∀ (k i : Nat) (n : Int), (∀ l, i ≤ l → l < i + k → (bF bs sa st priv kind va l).isf = false) →
    (runV bs 0 sa st priv kind va k i [] n).f = foundV 0 0 false ∧ (runV bs 0 sa st priv kind va k i [] n).all = (List.range' i k).map (bX bs sa st priv kind va)
  | 0, i, n, h => by simp [runV]
  | k + 1, i, n, h => by
    unfold runV
    rw [nL]
    have hi := h i (Nat.le_refl _) (by omega)
    rw [if_neg (by rw [show (sF bs [] sa st priv kind (stepA va i) 1).isf = false from hi]; decide)]
    obtain ⟨r1, r2⟩ := run_all k (i + 1) (toNV [] n sa st priv kind (stepA va i)) (fun l hl hl2 => h l (by omega) (by omega))
    rw [if_neg (by rw [r1]; decide)]
    refine ⟨r1, ?_⟩
    simp only [r2, List.range'_succ, List.map_cons]
    rfl
/-- One of the bytes is the first that faults, or none does. -/
theorem first_or (q : Nat → Bool) : ∀ m, (∀ l, l < m → q l = false) ∨ ∃ j, j < m ∧ (∀ l, l < j → q l = false) ∧ q j = true
  | 0 => .inl fun l hl => by omega
  | m + 1 => by
    rcases first_or q m with h | ⟨j, h1, h2, h3⟩
    · cases hm : q m
      · exact .inl fun l hl => by
          by_cases e : l = m
          · rw [e]; exact hm
          · exact h l (by omega)
      · exact .inr ⟨m, by omega, h, hm⟩
    · exact .inr ⟨j, by omega, h2, h3⟩
theorem sR_of {m : Int} {L : List Lf} (h : (sF bs L sa st priv kind va m).isf = false) : sR bs L sa st priv kind va m = toRV bs L sa st priv kind va := by
  unfold sR
  rw [if_neg (by rw [h]; decide)]
theorem sF_has {m : Int} {L : List Lf} (h : (sF bs L sa st priv kind va m).isf = false) : (toFV bs L sa st priv kind va).isf = false ∧ hasB bs.length (toRV bs L sa st priv kind va) m = true := by
  unfold sF at h
  by_cases h1 : (toFV bs L sa st priv kind va).isf = true
  · rw [if_pos h1, h1] at h; cases h
  · rw [if_neg h1] at h
    refine ⟨by simpa using h1, ?_⟩
    by_cases h2 : hasB bs.length (toRV bs L sa st priv kind va) m = true
    · exact h2
    · rw [if_neg h2] at h; cases h
/-- Two addresses of one page. -/
theorem page_same {i : Nat} (hb : Byt bs) (hv : B64 va) (hi : va / 4096 = (va + i) / 4096) :
    (walkV bs sa st priv kind (va + i)).isf = (walkV bs sa st priv kind va).isf ∧ (walkV bs sa st priv kind (va + i)).cause = (walkV bs sa st priv kind va).cause ∧
    ((walkV bs sa st priv kind va).isf = false → toV bs sa st priv kind (va + i) = toV bs sa st priv kind va + i) := by
  have hl := walk_page (bs := bs) (sa := sa) (k := kind) (p := priv) (s := st) hi
  refine ⟨hl.1.symm, hl.2.1.symm, fun hf => ?_⟩
  have := to_page (u := va + i) hi hb hv hf
  omega
theorem step_in {i : Nat} (hv : B64 va) (hs : va + i < 18446744073709551616) : stepA va i = va + i := by unfold B64 at hv; unfold stepA; omega
theorem sF_nil (m : Int) : sF bs [] sa st priv kind va m = if (walkV bs sa st priv kind va).isf = true then walkV bs sa st priv kind va else if hasB bs.length (toV bs sa st priv kind va) m = true then foundV 0 0 false else faultV (naC kind) va := by
  unfold sF; rw [nF, nR]
theorem has_1 {len : Nat} {a : Int} : hasB len a 1 = true ↔ 2147483648 ≤ a ∧ a - 2147483648 + 1 ≤ len := by unfold hasB; simp
theorem has_m {len m : Nat} {a : Int} : hasB len a m = true ↔ 2147483648 ≤ a ∧ a - 2147483648 + m ≤ len := by unfold hasB; simp
theorem sF_of {m : Int} {L : List Lf} (h : (sF bs L sa st priv kind va m).isf = true) : ((sF bs L sa st priv kind va m).cause = pfC kind ∨ (sF bs L sa st priv kind va m).cause = naC kind) ∧ (sF bs L sa st priv kind va m).val = va := by
  unfold sF at *
  split at h
  · rename_i h1
    rw [if_pos h1]
    unfold toFV at *
    split at h
    · simp [foundV] at h
    · exact walk_of bs sa va kind priv st h
  · rename_i h1
    rw [if_neg h1]
    split at h
    · simp [foundV] at h
    · rename_i h2
      rw [if_neg h2]
      exact ⟨.inr rfl, rfl⟩
/-- Aligned bytes: together they fault just if one of them does. -/
theorem tog_bytes {m : Nat} (hm : m = 1 ∨ m = 2 ∨ m = 4 ∨ m = 8) (hb : Byt bs) (hl : bs.length ≤ 65536) (hv : B64 va) (ha : va % m = 0) :
    ((sF bs [] sa st priv kind va m).isf = false → ∀ j, j < m → (bF bs sa st priv kind va j).isf = false ∧ bX bs sa st priv kind va j = stepA (sR bs [] sa st priv kind va m) j) ∧
    ((sF bs [] sa st priv kind va m).isf = true → ∃ j, j < m ∧ (bF bs sa st priv kind va j).isf = true) ∧
    (∀ j, j < m → (bF bs sa st priv kind va j).isf = true → (sF bs [] sa st priv kind va m).isf = true ∧ (sF bs [] sa st priv kind va m).cause = (bF bs sa st priv kind va j).cause ∧ (sF bs [] sa st priv kind va m).val = va) := by
  have hv' := hv
  unfold B64 at hv'
  have hpg : ∀ j : Nat, j < m → va / 4096 = (va + j) / 4096 := fun j hj => by rcases hm with rfl | rfl | rfl | rfl <;> omega
  have hst : ∀ j : Nat, j < m → stepA va j = va + j := fun j hj => step_in hv (by rcases hm with rfl | rfl | rfl | rfl <;> omega)
  have hbf : ∀ j : Nat, j < m → bF bs sa st priv kind va j = if (walkV bs sa st priv kind (va + j)).isf = true then walkV bs sa st priv kind (va + j) else if hasB bs.length (toV bs sa st priv kind (va + j)) 1 = true then foundV 0 0 false else faultV (naC kind) (va + j) := fun j hj => by
    unfold bF; rw [hst j hj, sF_nil]
  have hps : ∀ j : Nat, j < m → _ := fun j hj => page_same (bs := bs) (sa := sa) (st := st) (priv := priv) (kind := kind) hb hv (hpg j hj)
  rw [sF_nil]
  have hrng : ∀ j : Nat, j < m → sR bs [] sa st priv kind (va + j) 1 = if (bF bs sa st priv kind va j).isf = true then 0 else toV bs sa st priv kind (va + j) := fun j hj => by
    unfold sR bF; rw [hst j hj, nR]
  have hx0 : sR bs [] sa st priv kind va m = if (sF bs [] sa st priv kind va m).isf = true then 0 else toV bs sa st priv kind va := by unfold sR; rw [nR]
  by_cases hw : (walkV bs sa st priv kind va).isf = true
  · rw [if_pos hw]
    refine ⟨fun h => (by rw [hw] at h; cases h), fun _ => ⟨0, by omega, ?_⟩, fun j hj hf => ⟨hw, ?_, (walk_of bs sa va kind priv st hw).2⟩⟩
    · rw [hbf 0 (by omega)]
      have := (hps 0 (by omega)).1
      rw [if_pos (by rw [this]; exact hw), this]
      exact hw
    · rw [hbf j hj]
      have h1 := (hps j hj).1
      rw [if_pos (by rw [h1]; exact hw), (hps j hj).2.1]
  · have hw' : (walkV bs sa st priv kind va).isf = false := by simpa using hw
    rw [if_neg hw]
    have hbf2 : ∀ j : Nat, j < m → bF bs sa st priv kind va j = if hasB bs.length (toV bs sa st priv kind va + j) 1 = true then foundV 0 0 false else faultV (naC kind) (va + j) := fun j hj => by
      rw [hbf j hj, if_neg (by rw [(hps j hj).1]; exact hw), (hps j hj).2.2 hw']
    by_cases hh : hasB bs.length (toV bs sa st priv kind va) m = true
    · rw [if_pos hh]
      rw [has_m] at hh
      have hok : ∀ j : Nat, j < m → (bF bs sa st priv kind va j).isf = false := fun j hj => by
        rw [hbf2 j hj, if_pos (has_1.2 (by omega))]; rfl
      refine ⟨fun _ j hj => ⟨hok j hj, ?_⟩, fun h => by simp [foundV] at h, fun j hj hf => by rw [hok j hj] at hf; cases hf⟩
      unfold bX
      rw [hst j hj, hrng j hj, hok j hj, hx0, sF_nil, if_neg hw, if_pos (has_m.2 hh)]
      simp only [foundV, Bool.false_eq_true, if_false]
      rw [(hps j hj).2.2 hw']
      unfold stepA
      omega
    · rw [if_neg hh]
      rw [has_m] at hh
      refine ⟨fun h => by simp [faultV] at h, fun _ => ?_, fun j hj hf => ⟨rfl, ?_, rfl⟩⟩
      · by_cases h0 : 2147483648 ≤ toV bs sa st priv kind va
        · refine ⟨m - 1, by omega, ?_⟩
          rw [hbf2 (m - 1) (by omega), if_neg (by rw [has_1]; omega)]
          rfl
        · refine ⟨0, by omega, ?_⟩
          rw [hbf2 0 (by omega), if_neg (by rw [has_1]; omega)]
          rfl
      · rw [hbf2 j hj] at hf ⊢
        split at hf
        · simp [foundV] at hf
        · rename_i h2
          rw [if_neg h2]
          rfl
/-- The bytes of an access, without what keeps leaves. -/
theorem reals_nil {m : Nat} (hm : m = 1 ∨ m = 2 ∨ m = 4 ∨ m = 8) (hb : Byt bs) (hl : bs.length ≤ 65536) (hv : B64 va) {r : Ans} (hr : realsV bs 0 sa st priv kind va m [] 0 = r) :
    ((∀ j, j < m → (bF bs sa st priv kind va j).isf = false) → r.f.isf = false ∧ r.all = (List.range m).map (bX bs sa st priv kind va)) ∧
    (∀ j, j < m → (∀ l, l < j → (bF bs sa st priv kind va l).isf = false) → (bF bs sa st priv kind va j).isf = true → r.f.isf = true ∧ r.all = [] ∧ r.f.cause = (bF bs sa st priv kind va j).cause ∧ (r.f.val = stepA va j ∨ (va % m = 0 ∧ r.f.val = va))) := by
  subst hr
  unfold realsV
  by_cases ha : va % m = 0
  · rw [if_pos ha]
    obtain ⟨t1, t2, t3⟩ := tog_bytes (sa := sa) (st := st) (priv := priv) (kind := kind) hm hb hl hv ha
    unfold togV
    refine ⟨fun h => ?_, fun j hj h1 h2 => ?_⟩
    · have hf : (sF bs [] sa st priv kind va m).isf = false := by
        cases hf : (sF bs [] sa st priv kind va m).isf
        · rfl
        · obtain ⟨j, hj, h2⟩ := t2 hf
          rw [h j hj] at h2; cases h2
      refine ⟨hf, ?_⟩
      simp only [hf, Bool.false_eq_true, if_false]
      unfold rowA
      apply List.map_congr_left
      intro j hj
      exact (t1 hf j (List.mem_range.1 hj)).2.symm
    · obtain ⟨e1, e2, e3⟩ := t3 j hj h2
      refine ⟨e1, by simp [e1], e2, .inr ⟨ha, e3⟩⟩
  · rw [if_neg ha]
    refine ⟨fun h => ?_, fun j hj h1 h2 => ?_⟩
    · obtain ⟨r1, r2⟩ := run_all (bs := bs) (sa := sa) (st := st) (priv := priv) (kind := kind) (va := va) m 0 0 (fun l _ hl2 => h l (by omega))
      rw [r1, r2, List.range_eq_range']
      exact ⟨rfl, rfl⟩
    · obtain ⟨r1, r2⟩ := run_first (bs := bs) (sa := sa) (st := st) (priv := priv) (kind := kind) (va := va) m 0 0 j (Nat.zero_le _) (by omega) (fun l _ hl2 => h1 l hl2) h2
      rw [r1, r2]
      exact ⟨h2, rfl, rfl, .inl (sF_of h2).2⟩
/-- One byte. -/
def gX (bs : List Int) (sa st priv kind va : Int) (j : Nat) : Int := if (bF bs sa st priv kind va j).isf = true then 0 else getV bs (bX bs sa st priv kind va j) 1
theorem sR_bd {m : Int} {L : List Lf} (h : (sF bs L sa st priv kind va m).isf = false) (hl : bs.length ≤ 65536) (h1 : 0 ≤ m) : 2147483648 ≤ sR bs L sa st priv kind va m ∧ sR bs L sa st priv kind va m ≤ 2147549184 := by
  rw [sR_of h]
  have := (sF_has h).2
  unfold hasB at this
  simp at this
  omega
theorem one_is (j : Nat) (hl : bs.length ≤ 65536) : (realsV bs 0 sa st priv kind (stepA va j) (1 : Nat) [] 0).f = bF bs sa st priv kind va j ∧ loadX bs (realsV bs 0 sa st priv kind (stepA va j) (1 : Nat) [] 0).all = gX bs sa st priv kind va j := by
  unfold realsV togV
  rw [if_pos (by omega)]
  refine ⟨rfl, ?_⟩
  unfold gX
  show loadX bs (if (bF bs sa st priv kind va j).isf = true then [] else rowA (bX bs sa st priv kind va j) 1) = _
  cases hf : (bF bs sa st priv kind va j).isf
  · have := sR_bd (m := 1) hf hl (by omega)
    simp only [Bool.false_eq_true, if_false]
    unfold rowA loadX
    have e : stepA (bX bs sa st priv kind va j) ((0 : Nat) : Int) = bX bs sa st priv kind va j := by
      unfold bX
      unfold stepA
      unfold stepA at this
      omega
    simp only [List.range_one, List.map_cons, List.map_nil, e]
    unfold leV leV
    omega
  · simp [loadX, leV]
theorem bF_val {j : Nat} (h : (bF bs sa st priv kind va j).isf = true) : (bF bs sa st priv kind va j).val = stepA va j := (sF_of h).2
theorem get1_bd {bs : List Int} (h : Byt bs) (a : Int) : 0 ≤ getV bs a 1 ∧ getV bs a 1 ≤ 255 := by
  unfold getV
  split
  · have := leV_bd _ (take_byt (drop_byt h (offV a)) (1 : Int).toNat)
    have hl : ((bs.drop (offV a)).take (1 : Int).toNat).length ≤ 1 := by simp; omega
    have hp := p256_le hl
    omega
  · omega
theorem gX_bd (hb : Byt bs) (sa st priv kind va : Int) (j : Nat) : 0 ≤ gX bs sa st priv kind va j ∧ gX bs sa st priv kind va j ≤ 255 := by
  unfold gX
  split
  · omega
  · exact get1_bd hb _
theorem le_bd (hb : Byt bs) (sa st priv kind va : Int) (i : Nat) : 0 ≤ leV ((List.range i).map (gX bs sa st priv kind va)) ∧ leV ((List.range i).map (gX bs sa st priv kind va)) < 256 ^ i := by
  have := leV_bd ((List.range i).map (gX bs sa st priv kind va)) (fun b h => by obtain ⟨a, -, rfl⟩ := List.mem_map.1 h; exact gX_bd hb sa st priv kind va a)
  simpa using this
theorem le_step (bs : List Int) (sa st priv kind va : Int) (i : Nat) : leV ((List.range (i + 1)).map (gX bs sa st priv kind va)) = leV ((List.range i).map (gX bs sa st priv kind va)) + 256 ^ i * gX bs sa st priv kind va i := by
  rw [List.range_succ, List.map_append, List.map_cons, List.map_nil, leV_snoc]
  simp
theorem sum_step {i : Nat} (hi : i < 8) {s x : Int} (h0 : 0 ≤ s) (h1 : s < 256 ^ i) (hx : 0 ≤ x ∧ x ≤ 255) : Value.int .u64 (IntKind.u64.wrap (s + IntKind.u64.wrap (x * 256 ^ i))) = .int .u64 (s + 256 ^ i * x) := by
  rw [IntKind.wrap_u64, IntKind.wrap_u64]
  have hp := p256 i
  have h8 : (256 : Int) ^ (i + 1) ≤ 256 ^ 8 := p256_le (by omega)
  rw [Int.pow_succ] at h8
  have hm : x * 256 ^ i ≤ 255 * 256 ^ i := Int.mul_le_mul_of_nonneg_right (by omega) (by omega)
  have hm0 : 0 ≤ x * 256 ^ i := Int.mul_nonneg hx.1 (by omega)
  rw [Int.mul_comm (256 ^ i) x]
  congr 1
  omega
theorem loads_is {m : Nat} (h : ∀ l, l < m → (bF bs sa st priv kind va l).isf = false) : leV ((List.range m).map (gX bs sa st priv kind va)) = loadX bs ((List.range m).map (bX bs sa st priv kind va)) := by
  unfold loadX
  rw [List.map_map]
  congr 1
  apply List.map_congr_left
  intro j hj
  unfold gX
  rw [h j (List.mem_range.1 hj)]
  rfl
end
end Go.Proofs.Ytkfmcbhoendocaa.S
end

section
namespace Go.Proofs.Ytkfmcbhoendocaa.S
open Go Go.RowKit W D A P M K T
set_option linter.unusedVariables false

/-- The addresses of m bytes from one on, that do not go round. -/
def rowP (va : Int) (m : Nat) : List Int := (List.range m).map fun (j : Nat) => va + j
theorem rowP_succ (va : Int) (m : Nat) : rowP va (m + 1) = va :: rowP (va + 1) m := by
  unfold rowP
  rw [List.range_succ_eq_map, List.map_cons, List.map_map]
  congr 1
  · omega
  · apply List.map_congr_left
    intro j hj
    simp only [Function.comp_apply]
    omega
theorem rowP_length (va : Int) (m : Nat) : (rowP va m).length = m := by simp [rowP]
theorem rowA_P {va : Int} {m : Nat} (h : 0 ≤ va) (h2 : va + m ≤ 18446744073709551616) : rowA va m = rowP va m := by
  unfold rowA rowP
  apply List.map_congr_left
  intro j hj
  have := List.mem_range.1 hj
  unfold stepA
  omega
theorem splice_cons {bs cs : List Int} {o : Nat} {c : Int} (h : o + 1 + cs.length ≤ bs.length) : splice (splice bs o [c]) (o + 1) cs = splice bs o (c :: cs) := by
  have hl : (splice bs o [c]).length = bs.length := splice_length _ _ _ (by simp; omega)
  apply List.ext_getElem?
  intro i
  rw [splice_get _ _ _ (by rw [hl]; omega), splice_get _ _ _ (by simp; omega), splice_get _ _ _ (by simp; omega)]
  simp only [List.length_cons, List.length_nil]
  by_cases h1 : i < o
  · rw [if_neg (by omega), if_neg (by omega), if_neg (by omega)]
  · by_cases h2 : i = o
    · subst h2
      rw [if_neg (by omega), if_pos (by omega), if_pos (by omega), Nat.sub_self]
      rfl
    · by_cases h3 : i < o + 1 + cs.length
      · obtain ⟨k, rfl⟩ : ∃ k, i = o + 1 + k := ⟨i - o - 1, by omega⟩
        rw [if_pos (by omega), if_pos (by omega), show o + 1 + k - (o + 1) = k by omega, show o + 1 + k - o = k + 1 by omega]
        rfl
      · rw [if_neg (by omega), if_neg (by omega), if_neg (by omega)]
theorem ok_1 {len : Nat} {a : Int} (h : 2147483648 ≤ a) (h2 : a - 2147483648 + 1 ≤ len) : okB len a 1 = true := by
  unfold okB
  rw [has_1.2 ⟨h, h2⟩]
  rfl
theorem off_is {a : Int} (h : 2147483648 ≤ a) : (offV a : Int) = a - 2147483648 := by unfold offV; omega
theorem off_1 {a : Int} (h : 2147483648 ≤ a) : offV (a + 1) = offV a + 1 := by unfold offV; omega
theorem store_row : ∀ (m : Nat) (bs : List Int) (va x : Int), 2147483648 ≤ va → va - 2147483648 + m ≤ bs.length → storeX bs (rowP va m) x = splice bs (offV va) (toB m x)
  | 0, bs, va, x, h1, h2 => by simp [rowP, storeX, toB, splice_nil]
  | m + 1, bs, va, x, h1, h2 => by
    have ho := off_is h1
    have hp : putV bs va 1 x = splice bs (offV va) [x % 256] := by
      unfold putV
      rw [if_pos (ok_1 h1 (by omega))]
      rfl
    have hl : (putV bs va 1 x).length = bs.length := putV_length bs va 1 x
    rw [rowP_succ, storeX, store_row m _ _ _ (by omega) (by rw [hl]; omega), hp, off_1 h1, toB, splice_cons (by rw [toB_length]; omega)]
theorem load_row : ∀ (m : Nat) (bs : List Int) (va : Int), 2147483648 ≤ va → va - 2147483648 + m ≤ bs.length → loadX bs (rowP va m) = leV ((bs.drop (offV va)).take m)
  | 0, bs, va, h1, h2 => by simp [rowP, loadX]
  | m + 1, bs, va, h1, h2 => by
    have ho := off_is h1
    have hlt : offV va < bs.length := by omega
    have hg : getV bs va 1 = bs[offV va] := by
      unfold getV
      rw [if_pos (ok_1 h1 (by omega)), List.drop_eq_getElem_cons hlt, show (1 : Int).toNat = 1 from rfl, List.take_succ_cons, List.take_zero, leV, leV]
      omega
    have ih := load_row m bs (va + 1) (by omega) (by omega)
    rw [off_1 h1] at ih
    rw [rowP_succ]
    show leV (getV bs va 1 :: (rowP (va + 1) m).map fun a => getV bs a 1) = _
    rw [leV, show leV ((rowP (va + 1) m).map fun a => getV bs a 1) = loadX bs (rowP (va + 1) m) from rfl, ih, hg, List.drop_eq_getElem_cons hlt, List.take_succ_cons, leV]
theorem store_load (m : Nat) (bs : List Int) (va x : Int) (h1 : 2147483648 ≤ va) (h2 : va - 2147483648 + m ≤ bs.length) : loadX (storeX bs (rowP va m) x) (rowP va m) = x % 256 ^ m := by
  have ho := off_is h1
  have hl : (splice bs (offV va) (toB m x)).length = bs.length := splice_length _ _ _ (by rw [toB_length]; omega)
  rw [store_row m bs va x h1 h2, load_row m _ va h1 (by rw [hl]; exact h2)]
  have := splice_self bs (offV va) (toB m x) (by rw [toB_length]; omega)
  rw [toB_length] at this
  rw [this, leV_toB]
/-! ### Without a table -/
section
variable {bs : List Int} {sa st priv kind va : Int}
theorem un_F (h : pagedV sa = false) (m : Int) : sF bs [] sa st priv kind va m = if hasB bs.length va m = true then foundV 0 0 false else faultV (naC kind) va := by
  rw [sF_nil]
  have hw : walkV bs sa st priv kind va = foundV 0 0 false := by unfold walkV; rw [h]; rfl
  have ht : toV bs sa st priv kind va = va := by unfold toV; rw [h]; rfl
  rw [hw, ht]
  rfl
theorem un_R (h : pagedV sa = false) (m : Int) : sR bs [] sa st priv kind va m = if hasB bs.length va m = true then va else 0 := by
  have ht : toV bs sa st priv kind va = va := by unfold toV; rw [h]; rfl
  unfold sR
  rw [un_F h, nR, ht]
  split <;> simp [foundV, faultV]
theorem al_in {m : Nat} (hm : m = 1 ∨ m = 2 ∨ m = 4 ∨ m = 8) (hb : Byt bs) (hl : bs.length ≤ 65536) (hv : B64 va) (hp : pagedV sa = false) (h1 : 2147483648 ≤ va) (h2 : va - 2147483648 + m ≤ bs.length) {r : Ans} (hr : realsV bs 0 sa st priv kind va m [] 0 = r) :
    r.f.isf = false ∧ r.all = rowP va m := by
  obtain ⟨t1, -⟩ := reals_nil (sa := sa) (st := st) (priv := priv) (kind := kind) hm hb hl hv hr
  have hst : ∀ j : Nat, j < m → stepA va j = va + j := fun j hj => step_in hv (by omega)
  obtain ⟨e1, e2⟩ := t1 (fun j hj => by unfold bF; rw [hst j hj, un_F hp, if_pos (has_1.2 (by omega))]; rfl)
  refine ⟨e1, ?_⟩
  rw [e2]
  unfold rowP
  apply List.map_congr_left
  intro j hj
  have := List.mem_range.1 hj
  unfold bX
  rw [hst j this, un_R hp, if_pos (has_1.2 (by omega))]
/-- The first address that is not in memory, or the access's own. -/
def firstV (len : Nat) (va : Int) (m : Nat) : Int := if va % m ≠ 0 ∧ 2147483648 ≤ va ∧ va < 2147483648 + len then 2147483648 + len else va
theorem al_out {m : Nat} (hm : m = 1 ∨ m = 2 ∨ m = 4 ∨ m = 8) (hb : Byt bs) (hl : bs.length ≤ 65536) (hv : B64 va) (hp : pagedV sa = false) (h1 : ¬ (2147483648 ≤ va ∧ va - 2147483648 + m ≤ bs.length)) {r : Ans} (hr : realsV bs 0 sa st priv kind va m [] 0 = r) :
    r.f.isf = true ∧ r.f.cause = naC kind ∧ r.f.val = firstV bs.length va m ∧ r.all = [] := by
  have hv' := hv
  unfold B64 at hv'
  subst hr
  unfold realsV firstV
  by_cases ha : va % m = 0
  · rw [if_pos ha, if_neg (by rw [ha]; simp)]
    unfold togV
    rw [un_F hp, if_neg (by rw [has_m]; exact h1)]
    exact ⟨rfl, rfl, rfl, by simp [faultV]⟩
  · rw [if_neg ha]
    by_cases hin : 2147483648 ≤ va ∧ va < 2147483648 + bs.length
    · rw [if_pos ⟨ha, hin⟩]
      obtain ⟨j, hj⟩ : ∃ j : Nat, va + j = 2147483648 + bs.length := ⟨(2147483648 + bs.length - va).toNat, by omega⟩
      have hst : ∀ l : Nat, l ≤ j → stepA va l = va + l := fun l hl => step_in hv (by omega)
      have hbj : bF bs sa st priv kind va j = faultV (naC kind) (va + j) := by
        unfold bF; rw [hst j (Nat.le_refl _), un_F hp, if_neg (by rw [has_1]; omega)]
      obtain ⟨r1, r2⟩ := run_first (bs := bs) (sa := sa) (st := st) (priv := priv) (kind := kind) (va := va) m 0 0 j (Nat.zero_le _) (by omega)
        (fun l _ hl2 => by unfold bF; rw [hst l (by omega), un_F hp, if_pos (has_1.2 (by omega))]; rfl) (by rw [hbj]; rfl)
      rw [r1, r2, hbj]
      exact ⟨rfl, rfl, hj, rfl⟩
    · rw [if_neg (fun h => hin h.2)]
      have e0 : stepA va ((0 : Nat) : Int) = va := by unfold stepA; omega
      have hb0 : bF bs sa st priv kind va 0 = faultV (naC kind) va := by
        unfold bF; rw [e0, un_F hp, if_neg (by rw [has_1]; omega)]
      obtain ⟨r1, r2⟩ := run_first (bs := bs) (sa := sa) (st := st) (priv := priv) (kind := kind) (va := va) m 0 0 0 (Nat.le_refl _) (by omega)
        (fun l _ hl2 => by omega) (by rw [hb0]; rfl)
      rw [r1, r2, hb0]
      exact ⟨rfl, rfl, rfl, rfl⟩
end
theorem storeX_length : ∀ (all bs : List Int) (x : Int), (storeX bs all x).length = bs.length
  | [], bs, x => rfl
  | a :: r, bs, x => by rw [storeX, storeX_length r, putV_length]
theorem storeX_byt : ∀ (all : List Int) {bs : List Int} (x : Int), Byt bs → Byt (storeX bs all x)
  | [], bs, x, h => h
  | a :: r, bs, x, h => storeX_byt r _ (putV_byt h a 1 x)
end Go.Proofs.Ytkfmcbhoendocaa.S
end
