/-
  Plain mathematics of layer 13 (space): what was stored is loaded; accesses without a table.
  Conditions: none; nothing here speaks of the program.
-/
import Derived.Test.YthhlmliejppdoaaSpX
namespace Go.Proofs.Ythhlmliejppdoaa.S
open Go Go.RowKit W D A P M K T
set_option linter.unusedVariables false

/-- The addresses of m bytes from one on, that do not go round. -/
def rowP (va : Int) (m : Nat) : List Int := (List.range m).map fun (j : Nat) => va + j
theorem rowP_succ (va : Int) (m : Nat) : rowP va (m + 1) = va :: rowP (va + 1) m := by
  unfold rowP
  rw [List.range_succ_eq_map, List.map_cons, List.map_map]
  congr 1
  · omega
  · apply List.map_congr_left
    intro j hj
    simp only [Function.comp_apply]
    omega
theorem rowP_length (va : Int) (m : Nat) : (rowP va m).length = m := by simp [rowP]
theorem rowA_P {va : Int} {m : Nat} (h : 0 ≤ va) (h2 : va + m ≤ 18446744073709551616) : rowA va m = rowP va m := by
  unfold rowA rowP
  apply List.map_congr_left
  intro j hj
  have := List.mem_range.1 hj
  unfold stepA
  omega
theorem splice_cons {bs cs : List Int} {o : Nat} {c : Int} (h : o + 1 + cs.length ≤ bs.length) : splice (splice bs o [c]) (o + 1) cs = splice bs o (c :: cs) := by
  have hl : (splice bs o [c]).length = bs.length := splice_length _ _ _ (by simp; omega)
  apply List.ext_getElem?
  intro i
  rw [splice_get _ _ _ (by rw [hl]; omega), splice_get _ _ _ (by simp; omega), splice_get _ _ _ (by simp; omega)]
  simp only [List.length_cons, List.length_nil]
  by_cases h1 : i < o
  · rw [if_neg (by omega), if_neg (by omega), if_neg (by omega)]
  · by_cases h2 : i = o
    · subst h2
      rw [if_neg (by omega), if_pos (by omega), if_pos (by omega), Nat.sub_self]
      rfl
    · by_cases h3 : i < o + 1 + cs.length
      · obtain ⟨k, rfl⟩ : ∃ k, i = o + 1 + k := ⟨i - o - 1, by omega⟩
        rw [if_pos (by omega), if_pos (by omega), show o + 1 + k - (o + 1) = k by omega, show o + 1 + k - o = k + 1 by omega]
        rfl
      · rw [if_neg (by omega), if_neg (by omega), if_neg (by omega)]
theorem ok_1 {len : Nat} {a : Int} (h : 2147483648 ≤ a) (h2 : a - 2147483648 + 1 ≤ len) : okB len a 1 = true := by
  unfold okB
  rw [has_1.2 ⟨h, h2⟩]
  rfl
theorem off_is {a : Int} (h : 2147483648 ≤ a) : (offV a : Int) = a - 2147483648 := by unfold offV; omega
theorem off_1 {a : Int} (h : 2147483648 ≤ a) : offV (a + 1) = offV a + 1 := by unfold offV; omega
theorem store_row : ∀ (m : Nat) (bs : List Int) (va x : Int), 2147483648 ≤ va → va - 2147483648 + m ≤ bs.length → storeX bs (rowP va m) x = splice bs (offV va) (toB m x)
  | 0, bs, va, x, h1, h2 => by simp [rowP, storeX, toB, splice_nil]
  | m + 1, bs, va, x, h1, h2 => by
    have ho := off_is h1
    have hp : putV bs va 1 x = splice bs (offV va) [x % 256] := by
      unfold putV
      rw [if_pos (ok_1 h1 (by omega))]
      rfl
    have hl : (putV bs va 1 x).length = bs.length := putV_length bs va 1 x
    rw [rowP_succ, storeX, store_row m _ _ _ (by omega) (by rw [hl]; omega), hp, off_1 h1, toB, splice_cons (by rw [toB_length]; omega)]
theorem load_row : ∀ (m : Nat) (bs : List Int) (va : Int), 2147483648 ≤ va → va - 2147483648 + m ≤ bs.length → loadX bs (rowP va m) = leV ((bs.drop (offV va)).take m)
  | 0, bs, va, h1, h2 => by simp [rowP, loadX]
  | m + 1, bs, va, h1, h2 => by
    have ho := off_is h1
    have hlt : offV va < bs.length := by omega
    have hg : getV bs va 1 = bs[offV va] := by
      unfold getV
      rw [if_pos (ok_1 h1 (by omega)), List.drop_eq_getElem_cons hlt, show (1 : Int).toNat = 1 from rfl, List.take_succ_cons, List.take_zero, leV, leV]
      omega
    have ih := load_row m bs (va + 1) (by omega) (by omega)
    rw [off_1 h1] at ih
    rw [rowP_succ]
    show leV (getV bs va 1 :: (rowP (va + 1) m).map fun a => getV bs a 1) = _
    rw [leV, show leV ((rowP (va + 1) m).map fun a => getV bs a 1) = loadX bs (rowP (va + 1) m) from rfl, ih, hg, List.drop_eq_getElem_cons hlt, List.take_succ_cons, leV]
theorem store_load (m : Nat) (bs : List Int) (va x : Int) (h1 : 2147483648 ≤ va) (h2 : va - 2147483648 + m ≤ bs.length) : loadX (storeX bs (rowP va m) x) (rowP va m) = x % 256 ^ m := by
  have ho := off_is h1
  have hl : (splice bs (offV va) (toB m x)).length = bs.length := splice_length _ _ _ (by rw [toB_length]; omega)
  rw [store_row m bs va x h1 h2, load_row m _ va h1 (by rw [hl]; exact h2)]
  have := splice_self bs (offV va) (toB m x) (by rw [toB_length]; omega)
  rw [toB_length] at this
  rw [this, leV_toB]
/-! ### Without a table -/
section
variable {bs : List Int} {sa st priv kind va : Int}
theorem un_F (h : pagedV sa = false) (m : Int) : sF bs [] sa st priv kind va m = if hasB bs.length va m = true then foundV 0 0 false else faultV (naC kind) va := by
  rw [sF_nil]
  have hw : walkV bs sa st priv kind va = foundV 0 0 false := by unfold walkV; rw [h]; rfl
  have ht : toV bs sa st priv kind va = va := by unfold toV; rw [h]; rfl
  rw [hw, ht]
  rfl
theorem un_R (h : pagedV sa = false) (m : Int) : sR bs [] sa st priv kind va m = if hasB bs.length va m = true then va else 0 := by
  have ht : toV bs sa st priv kind va = va := by unfold toV; rw [h]; rfl
  unfold sR
  rw [un_F h, nR, ht]
  split <;> simp [foundV, faultV]
theorem al_in {m : Nat} (hm : m = 1 ∨ m = 2 ∨ m = 4 ∨ m = 8) (hb : Byt bs) (hl : bs.length ≤ 65536) (hv : B64 va) (hp : pagedV sa = false) (h1 : 2147483648 ≤ va) (h2 : va - 2147483648 + m ≤ bs.length) {r : Ans} (hr : realsV bs 0 sa st priv kind va m [] 0 = r) :
    r.f.isf = false ∧ r.all = rowP va m := by
  obtain ⟨t1, -⟩ := reals_nil (sa := sa) (st := st) (priv := priv) (kind := kind) hm hb hl hv hr
  have hst : ∀ j : Nat, j < m → stepA va j = va + j := fun j hj => step_in hv (by omega)
  obtain ⟨e1, e2⟩ := t1 (fun j hj => by unfold bF; rw [hst j hj, un_F hp, if_pos (has_1.2 (by omega))]; rfl)
  refine ⟨e1, ?_⟩
  rw [e2]
  unfold rowP
  apply List.map_congr_left
  intro j hj
  have := List.mem_range.1 hj
  unfold bX
  rw [hst j this, un_R hp, if_pos (has_1.2 (by omega))]
/-- The first address that is not in memory, or the access's own. -/
def firstV (len : Nat) (va : Int) (m : Nat) : Int := if va % m ≠ 0 ∧ 2147483648 ≤ va ∧ va < 2147483648 + len then 2147483648 + len else va
theorem al_out {m : Nat} (hm : m = 1 ∨ m = 2 ∨ m = 4 ∨ m = 8) (hb : Byt bs) (hl : bs.length ≤ 65536) (hv : B64 va) (hp : pagedV sa = false) (h1 : ¬ (2147483648 ≤ va ∧ va - 2147483648 + m ≤ bs.length)) {r : Ans} (hr : realsV bs 0 sa st priv kind va m [] 0 = r) :
    r.f.isf = true ∧ r.f.cause = naC kind ∧ r.f.val = firstV bs.length va m ∧ r.all = [] := by
  have hv' := hv
  unfold B64 at hv'
  subst hr
  unfold realsV firstV
  by_cases ha : va % m = 0
  · rw [if_pos ha, if_neg (by rw [ha]; simp)]
    unfold togV
    rw [un_F hp, if_neg (by rw [has_m]; exact h1)]
    exact ⟨rfl, rfl, rfl, by simp [faultV]⟩
  · rw [if_neg ha]
    by_cases hin : 2147483648 ≤ va ∧ va < 2147483648 + bs.length
    · rw [if_pos ⟨ha, hin⟩]
      obtain ⟨j, hj⟩ : ∃ j : Nat, va + j = 2147483648 + bs.length := ⟨(2147483648 + bs.length - va).toNat, by omega⟩
      have hst : ∀ l : Nat, l ≤ j → stepA va l = va + l := fun l hl => step_in hv (by omega)
      have hbj : bF bs sa st priv kind va j = faultV (naC kind) (va + j) := by
        unfold bF; rw [hst j (Nat.le_refl _), un_F hp, if_neg (by rw [has_1]; omega)]
      obtain ⟨r1, r2⟩ := run_first (bs := bs) (sa := sa) (st := st) (priv := priv) (kind := kind) (va := va) m 0 0 j (Nat.zero_le _) (by omega)
        (fun l _ hl2 => by unfold bF; rw [hst l (by omega), un_F hp, if_pos (has_1.2 (by omega))]; rfl) (by rw [hbj]; rfl)
      rw [r1, r2, hbj]
      exact ⟨rfl, rfl, hj, rfl⟩
    · rw [if_neg (fun h => hin h.2)]
      have e0 : stepA va ((0 : Nat) : Int) = va := by unfold stepA; omega
      have hb0 : bF bs sa st priv kind va 0 = faultV (naC kind) va := by
        unfold bF; rw [e0, un_F hp, if_neg (by rw [has_1]; omega)]
      obtain ⟨r1, r2⟩ := run_first (bs := bs) (sa := sa) (st := st) (priv := priv) (kind := kind) (va := va) m 0 0 0 (Nat.le_refl _) (by omega)
        (fun l _ hl2 => by omega) (by rw [hb0]; rfl)
      rw [r1, r2, hb0]
      exact ⟨rfl, rfl, rfl, rfl⟩
end
theorem storeX_length : ∀ (all bs : List Int) (x : Int), (storeX bs all x).length = bs.length
  | [], bs, x => rfl
  | a :: r, bs, x => by rw [storeX, storeX_length r, putV_length]
theorem storeX_byt : ∀ (all : List Int) {bs : List Int} (x : Int), Byt bs → Byt (storeX bs all x)
  | [], bs, x, h => h
  | a :: r, bs, x, h => storeX_byt r _ (putV_byt h a 1 x)
end Go.Proofs.Ythhlmliejppdoaa.S
