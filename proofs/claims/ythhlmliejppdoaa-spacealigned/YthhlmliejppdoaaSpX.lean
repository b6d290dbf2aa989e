/-
  Plain mathematics of layer 13 (space): a space without what keeps leaves: bytes one by one, and together.
  Conditions: none; nothing here speaks of the program.
-/
import Derived.Test.YthhlmliejppdoaaSpV
import Derived.Test.YthhlmliejppdoaaRamW
namespace Go.Proofs.Ythhlmliejppdoaa.S
open Go Go.RowKit W D A P M K T
set_option linter.unusedVariables false

theorem nHit (sa st priv kind va : Int) : hitV [] sa st priv kind va = none := by
  unfold hitV
  split <;> rfl
theorem nR (bs : List Int) (sa st priv kind va : Int) : toRV bs [] sa st priv kind va = toV bs sa st priv kind va := by unfold toRV; rw [nHit]
theorem nF (bs : List Int) (sa st priv kind va : Int) : toFV bs [] sa st priv kind va = walkV bs sa st priv kind va := by unfold toFV; rw [nHit]
theorem nL (bs : List Int) (sa st priv kind va : Int) : toLV bs 0 [] sa st priv kind va = [] := by unfold toLV putT; split <;> rfl
section
variable {bs : List Int} {sa st priv kind va : Int}
/-- Each byte's fault, and address. -/
def bF (bs : List Int) (sa st priv kind va : Int) (j : Nat) : Wr := sF bs [] sa st priv kind (stepA va j) 1
def bX (bs : List Int) (sa st priv kind va : Int) (j : Nat) : Int := sR bs [] sa st priv kind (stepA va j) 1
theorem run_first : ∀ (k i : Nat) (n : Int) (j : Nat), i ≤ j → j < i + k → (∀ l, i ≤ l → l < j → (bF bs sa st priv kind va l).isf = false) → (bF bs sa st priv kind va j).isf = true →
    (runV bs 0 sa st priv kind va k i [] n).f = bF bs sa st priv kind va j ∧ (runV bs 0 sa st priv kind va k i [] n).all = []
  | 0, i, n, j, h1, h2, _, _ => by omega
  | k + 1, i, n, j, h1, h2, h3, h4 => by
    unfold runV
    rw [nL]
    by_cases e : i = j
    · subst e
      rw [if_pos (show (sF bs [] sa st priv kind (stepA va i) 1).isf = true from h4)]
      exact ⟨rfl, rfl⟩
    · have hi := h3 i (Nat.le_refl _) (by omega)
      rw [if_neg (by rw [show (sF bs [] sa st priv kind (stepA va i) 1).isf = false from hi]; decide)]
      obtain ⟨r1, r2⟩ := run_first k (i + 1) (toNV [] n sa st priv kind (stepA va i)) j (by omega) (by omega) (fun l hl => h3 l (by omega)) h4
      rw [if_pos (by rw [r1]; exact h4)]
      exact ⟨r1, r2⟩
theorem run_all : ∀ (k i : Nat) (n : Int), (∀ l, i ≤ l → l < i + k → (bF bs sa st priv kind va l).isf = false) →
    (runV bs 0 sa st priv kind va k i [] n).f = foundV 0 0 false ∧ (runV bs 0 sa st priv kind va k i [] n).all = (List.range' i k).map (bX bs sa st priv kind va)
  | 0, i, n, h => by simp [runV]
  | k + 1, i, n, h => by
    unfold runV
    rw [nL]
    have hi := h i (Nat.le_refl _) (by omega)
    rw [if_neg (by rw [show (sF bs [] sa st priv kind (stepA va i) 1).isf = false from hi]; decide)]
    obtain ⟨r1, r2⟩ := run_all k (i + 1) (toNV [] n sa st priv kind (stepA va i)) (fun l hl hl2 => h l (by omega) (by omega))
    rw [if_neg (by rw [r1]; decide)]
    refine ⟨r1, ?_⟩
    simp only [r2, List.range'_succ, List.map_cons]
    rfl
/-- One of the bytes is the first that faults, or none does. -/
theorem first_or (q : Nat → Bool) : ∀ m, (∀ l, l < m → q l = false) ∨ ∃ j, j < m ∧ (∀ l, l < j → q l = false) ∧ q j = true
  | 0 => .inl fun l hl => by omega
  | m + 1 => by
    rcases first_or q m with h | ⟨j, h1, h2, h3⟩
    · cases hm : q m
      · exact .inl fun l hl => by
          by_cases e : l = m
          · rw [e]; exact hm
          · exact h l (by omega)
      · exact .inr ⟨m, by omega, h, hm⟩
    · exact .inr ⟨j, by omega, h2, h3⟩
theorem sR_of {m : Int} {L : List Lf} (h : (sF bs L sa st priv kind va m).isf = false) : sR bs L sa st priv kind va m = toRV bs L sa st priv kind va := by
  unfold sR
  rw [if_neg (by rw [h]; decide)]
theorem sF_has {m : Int} {L : List Lf} (h : (sF bs L sa st priv kind va m).isf = false) : (toFV bs L sa st priv kind va).isf = false ∧ hasB bs.length (toRV bs L sa st priv kind va) m = true := by
  unfold sF at h
  by_cases h1 : (toFV bs L sa st priv kind va).isf = true
  · rw [if_pos h1, h1] at h; cases h
  · rw [if_neg h1] at h
    refine ⟨by simpa using h1, ?_⟩
    by_cases h2 : hasB bs.length (toRV bs L sa st priv kind va) m = true
    · exact h2
    · rw [if_neg h2] at h; cases h
/-- Two addresses of one page. -/
theorem page_same {i : Nat} (hb : Byt bs) (hv : B64 va) (hi : va / 4096 = (va + i) / 4096) :
    (walkV bs sa st priv kind (va + i)).isf = (walkV bs sa st priv kind va).isf ∧ (walkV bs sa st priv kind (va + i)).cause = (walkV bs sa st priv kind va).cause ∧
    ((walkV bs sa st priv kind va).isf = false → toV bs sa st priv kind (va + i) = toV bs sa st priv kind va + i) := by
  have hl := walk_page (bs := bs) (sa := sa) (k := kind) (p := priv) (s := st) hi
  refine ⟨hl.1.symm, hl.2.1.symm, fun hf => ?_⟩
  have := to_page (u := va + i) hi hb hv hf
  omega
theorem step_in {i : Nat} (hv : B64 va) (hs : va + i < 18446744073709551616) : stepA va i = va + i := by unfold B64 at hv; unfold stepA; omega
theorem sF_nil (m : Int) : sF bs [] sa st priv kind va m = if (walkV bs sa st priv kind va).isf = true then walkV bs sa st priv kind va else if hasB bs.length (toV bs sa st priv kind va) m = true then foundV 0 0 false else faultV (naC kind) va := by
  unfold sF; rw [nF, nR]
theorem has_1 {len : Nat} {a : Int} : hasB len a 1 = true ↔ 2147483648 ≤ a ∧ a - 2147483648 + 1 ≤ len := by unfold hasB; simp
theorem has_m {len m : Nat} {a : Int} : hasB len a m = true ↔ 2147483648 ≤ a ∧ a - 2147483648 + m ≤ len := by unfold hasB; simp
theorem sF_of {m : Int} {L : List Lf} (h : (sF bs L sa st priv kind va m).isf = true) : ((sF bs L sa st priv kind va m).cause = pfC kind ∨ (sF bs L sa st priv kind va m).cause = naC kind) ∧ (sF bs L sa st priv kind va m).val = va := by
  unfold sF at *
  split at h
  · rename_i h1
    rw [if_pos h1]
    unfold toFV at *
    split at h
    · simp [foundV] at h
    · exact walk_of bs sa va kind priv st h
  · rename_i h1
    rw [if_neg h1]
    split at h
    · simp [foundV] at h
    · rename_i h2
      rw [if_neg h2]
      exact ⟨.inr rfl, rfl⟩
/-- Aligned bytes: together they fault just if one of them does. -/
theorem tog_bytes {m : Nat} (hm : m = 1 ∨ m = 2 ∨ m = 4 ∨ m = 8) (hb : Byt bs) (hl : bs.length ≤ 65536) (hv : B64 va) (ha : va % m = 0) :
    ((sF bs [] sa st priv kind va m).isf = false → ∀ j, j < m → (bF bs sa st priv kind va j).isf = false ∧ bX bs sa st priv kind va j = stepA (sR bs [] sa st priv kind va m) j) ∧
    ((sF bs [] sa st priv kind va m).isf = true → ∃ j, j < m ∧ (bF bs sa st priv kind va j).isf = true) ∧
    (∀ j, j < m → (bF bs sa st priv kind va j).isf = true → (sF bs [] sa st priv kind va m).isf = true ∧ (sF bs [] sa st priv kind va m).cause = (bF bs sa st priv kind va j).cause ∧ (sF bs [] sa st priv kind va m).val = va) := by
  have hv' := hv
  unfold B64 at hv'
  have hpg : ∀ j : Nat, j < m → va / 4096 = (va + j) / 4096 := fun j hj => by rcases hm with rfl | rfl | rfl | rfl <;> omega
  have hst : ∀ j : Nat, j < m → stepA va j = va + j := fun j hj => step_in hv (by rcases hm with rfl | rfl | rfl | rfl <;> omega)
  have hbf : ∀ j : Nat, j < m → bF bs sa st priv kind va j = if (walkV bs sa st priv kind (va + j)).isf = true then walkV bs sa st priv kind (va + j) else if hasB bs.length (toV bs sa st priv kind (va + j)) 1 = true then foundV 0 0 false else faultV (naC kind) (va + j) := fun j hj => by
    unfold bF; rw [hst j hj, sF_nil]
  have hps : ∀ j : Nat, j < m → _ := fun j hj => page_same (bs := bs) (sa := sa) (st := st) (priv := priv) (kind := kind) hb hv (hpg j hj)
  rw [sF_nil]
  have hrng : ∀ j : Nat, j < m → sR bs [] sa st priv kind (va + j) 1 = if (bF bs sa st priv kind va j).isf = true then 0 else toV bs sa st priv kind (va + j) := fun j hj => by
    unfold sR bF; rw [hst j hj, nR]
  have hx0 : sR bs [] sa st priv kind va m = if (sF bs [] sa st priv kind va m).isf = true then 0 else toV bs sa st priv kind va := by unfold sR; rw [nR]
  by_cases hw : (walkV bs sa st priv kind va).isf = true
  · rw [if_pos hw]
    refine ⟨fun h => (by rw [hw] at h; cases h), fun _ => ⟨0, by omega, ?_⟩, fun j hj hf => ⟨hw, ?_, (walk_of bs sa va kind priv st hw).2⟩⟩
    · rw [hbf 0 (by omega)]
      have := (hps 0 (by omega)).1
      rw [if_pos (by rw [this]; exact hw), this]
      exact hw
    · rw [hbf j hj]
      have h1 := (hps j hj).1
      rw [if_pos (by rw [h1]; exact hw), (hps j hj).2.1]
  · have hw' : (walkV bs sa st priv kind va).isf = false := by simpa using hw
    rw [if_neg hw]
    have hbf2 : ∀ j : Nat, j < m → bF bs sa st priv kind va j = if hasB bs.length (toV bs sa st priv kind va + j) 1 = true then foundV 0 0 false else faultV (naC kind) (va + j) := fun j hj => by
      rw [hbf j hj, if_neg (by rw [(hps j hj).1]; exact hw), (hps j hj).2.2 hw']
    by_cases hh : hasB bs.length (toV bs sa st priv kind va) m = true
    · rw [if_pos hh]
      rw [has_m] at hh
      have hok : ∀ j : Nat, j < m → (bF bs sa st priv kind va j).isf = false := fun j hj => by
        rw [hbf2 j hj, if_pos (has_1.2 (by omega))]; rfl
      refine ⟨fun _ j hj => ⟨hok j hj, ?_⟩, fun h => by simp [foundV] at h, fun j hj hf => by rw [hok j hj] at hf; cases hf⟩
      unfold bX
      rw [hst j hj, hrng j hj, hok j hj, hx0, sF_nil, if_neg hw, if_pos (has_m.2 hh)]
      simp only [foundV, Bool.false_eq_true, if_false]
      rw [(hps j hj).2.2 hw']
      unfold stepA
      omega
    · rw [if_neg hh]
      rw [has_m] at hh
      refine ⟨fun h => by simp [faultV] at h, fun _ => ?_, fun j hj hf => ⟨rfl, ?_, rfl⟩⟩
      · by_cases h0 : 2147483648 ≤ toV bs sa st priv kind va
        · refine ⟨m - 1, by omega, ?_⟩
          rw [hbf2 (m - 1) (by omega), if_neg (by rw [has_1]; omega)]
          rfl
        · refine ⟨0, by omega, ?_⟩
          rw [hbf2 0 (by omega), if_neg (by rw [has_1]; omega)]
          rfl
      · rw [hbf2 j hj] at hf ⊢
        split at hf
        · simp [foundV] at hf
        · rename_i h2
          rw [if_neg h2]
          rfl
/-- The bytes of an access, without what keeps leaves. -/
theorem reals_nil {m : Nat} (hm : m = 1 ∨ m = 2 ∨ m = 4 ∨ m = 8) (hb : Byt bs) (hl : bs.length ≤ 65536) (hv : B64 va) {r : Ans} (hr : realsV bs 0 sa st priv kind va m [] 0 = r) :
    ((∀ j, j < m → (bF bs sa st priv kind va j).isf = false) → r.f.isf = false ∧ r.all = (List.range m).map (bX bs sa st priv kind va)) ∧
    (∀ j, j < m → (∀ l, l < j → (bF bs sa st priv kind va l).isf = false) → (bF bs sa st priv kind va j).isf = true → r.f.isf = true ∧ r.all = [] ∧ r.f.cause = (bF bs sa st priv kind va j).cause ∧ (r.f.val = stepA va j ∨ (va % m = 0 ∧ r.f.val = va))) := by
  subst hr
  unfold realsV
  by_cases ha : va % m = 0
  · rw [if_pos ha]
    obtain ⟨t1, t2, t3⟩ := tog_bytes (sa := sa) (st := st) (priv := priv) (kind := kind) hm hb hl hv ha
    unfold togV
    refine ⟨fun h => ?_, fun j hj h1 h2 => ?_⟩
    · have hf : (sF bs [] sa st priv kind va m).isf = false := by
        cases hf : (sF bs [] sa st priv kind va m).isf
        · rfl
        · obtain ⟨j, hj, h2⟩ := t2 hf
          rw [h j hj] at h2; cases h2
      refine ⟨hf, ?_⟩
      simp only [hf, Bool.false_eq_true, if_false]
      unfold rowA
      apply List.map_congr_left
      intro j hj
      exact (t1 hf j (List.mem_range.1 hj)).2.symm
    · obtain ⟨e1, e2, e3⟩ := t3 j hj h2
      refine ⟨e1, by simp [e1], e2, .inr ⟨ha, e3⟩⟩
  · rw [if_neg ha]
    refine ⟨fun h => ?_, fun j hj h1 h2 => ?_⟩
    · obtain ⟨r1, r2⟩ := run_all (bs := bs) (sa := sa) (st := st) (priv := priv) (kind := kind) (va := va) m 0 0 (fun l _ hl2 => h l (by omega))
      rw [r1, r2, List.range_eq_range']
      exact ⟨rfl, rfl⟩
    · obtain ⟨r1, r2⟩ := run_first (bs := bs) (sa := sa) (st := st) (priv := priv) (kind := kind) (va := va) m 0 0 j (Nat.zero_le _) (by omega) (fun l _ hl2 => h1 l hl2) h2
      rw [r1, r2]
      exact ⟨h2, rfl, rfl, .inl (sF_of h2).2⟩
/-- One byte. -/
def gX (bs : List Int) (sa st priv kind va : Int) (j : Nat) : Int := if (bF bs sa st priv kind va j).isf = true then 0 else getV bs (bX bs sa st priv kind va j) 1
theorem sR_bd {m : Int} {L : List Lf} (h : (sF bs L sa st priv kind va m).isf = false) (hl : bs.length ≤ 65536) (h1 : 0 ≤ m) : 2147483648 ≤ sR bs L sa st priv kind va m ∧ sR bs L sa st priv kind va m ≤ 2147549184 := by
  rw [sR_of h]
  have := (sF_has h).2
  unfold hasB at this
  simp at this
  omega
theorem one_is (j : Nat) (hl : bs.length ≤ 65536) : (realsV bs 0 sa st priv kind (stepA va j) (1 : Nat) [] 0).f = bF bs sa st priv kind va j ∧ loadX bs (realsV bs 0 sa st priv kind (stepA va j) (1 : Nat) [] 0).all = gX bs sa st priv kind va j := by
  unfold realsV togV
  rw [if_pos (by omega)]
  refine ⟨rfl, ?_⟩
  unfold gX
  show loadX bs (if (bF bs sa st priv kind va j).isf = true then [] else rowA (bX bs sa st priv kind va j) 1) = _
  cases hf : (bF bs sa st priv kind va j).isf
  · have := sR_bd (m := 1) hf hl (by omega)
    simp only [Bool.false_eq_true, if_false]
    unfold rowA loadX
    have e : stepA (bX bs sa st priv kind va j) ((0 : Nat) : Int) = bX bs sa st priv kind va j := by
      unfold bX
      unfold stepA
      unfold stepA at this
      omega
    simp only [List.range_one, List.map_cons, List.map_nil, e]
    unfold leV leV
    omega
  · simp [loadX, leV]
theorem bF_val {j : Nat} (h : (bF bs sa st priv kind va j).isf = true) : (bF bs sa st priv kind va j).val = stepA va j := (sF_of h).2
theorem get1_bd {bs : List Int} (h : Byt bs) (a : Int) : 0 ≤ getV bs a 1 ∧ getV bs a 1 ≤ 255 := by
  unfold getV
  split
  · have := leV_bd _ (take_byt (drop_byt h (offV a)) (1 : Int).toNat)
    have hl : ((bs.drop (offV a)).take (1 : Int).toNat).length ≤ 1 := by simp; omega
    have hp := p256_le hl
    omega
  · omega
theorem gX_bd (hb : Byt bs) (sa st priv kind va : Int) (j : Nat) : 0 ≤ gX bs sa st priv kind va j ∧ gX bs sa st priv kind va j ≤ 255 := by
  unfold gX
  split
  · omega
  · exact get1_bd hb _
theorem le_bd (hb : Byt bs) (sa st priv kind va : Int) (i : Nat) : 0 ≤ leV ((List.range i).map (gX bs sa st priv kind va)) ∧ leV ((List.range i).map (gX bs sa st priv kind va)) < 256 ^ i := by
  have := leV_bd ((List.range i).map (gX bs sa st priv kind va)) (fun b h => by obtain ⟨a, -, rfl⟩ := List.mem_map.1 h; exact gX_bd hb sa st priv kind va a)
  simpa using this
theorem le_step (bs : List Int) (sa st priv kind va : Int) (i : Nat) : leV ((List.range (i + 1)).map (gX bs sa st priv kind va)) = leV ((List.range i).map (gX bs sa st priv kind va)) + 256 ^ i * gX bs sa st priv kind va i := by
  rw [List.range_succ, List.map_append, List.map_cons, List.map_nil, leV_snoc]
  simp
theorem sum_step {i : Nat} (hi : i < 8) {s x : Int} (h0 : 0 ≤ s) (h1 : s < 256 ^ i) (hx : 0 ≤ x ∧ x ≤ 255) : Value.int .u64 (IntKind.u64.wrap (s + IntKind.u64.wrap (x * 256 ^ i))) = .int .u64 (s + 256 ^ i * x) := by
  rw [IntKind.wrap_u64, IntKind.wrap_u64]
  have hp := p256 i
  have h8 : (256 : Int) ^ (i + 1) ≤ 256 ^ 8 := p256_le (by omega)
  rw [Int.pow_succ] at h8
  have hm : x * 256 ^ i ≤ 255 * 256 ^ i := Int.mul_le_mul_of_nonneg_right (by omega) (by omega)
  have hm0 : 0 ≤ x * 256 ^ i := Int.mul_nonneg hx.1 (by omega)
  rw [Int.mul_comm (256 ^ i) x]
  congr 1
  omega
theorem loads_is {m : Nat} (h : ∀ l, l < m → (bF bs sa st priv kind va l).isf = false) : leV ((List.range m).map (gX bs sa st priv kind va)) = loadX bs ((List.range m).map (bX bs sa st priv kind va)) := by
  unfold loadX
  rw [List.map_map]
  congr 1
  apply List.map_congr_left
  intro j hj
  unfold gX
  rw [h j (List.mem_range.1 hj)]
  rfl
end
end Go.Proofs.Ythhlmliejppdoaa.S
