/-
  Plain mathematics of layer 11, on: tables of one entry each, down to a level; what a walk over them comes to.
  Conditions: none beyond the lemmas' own.
-/
import Derived.Test.YtaeloplmcinagaaWalkN
import Derived.Test.YtaeloplmcinagaaRamW
namespace Go.Proofs.Ytaeloplmcinagaa.K
open Go Go.RowKit W D A P M
set_option linter.unusedVariables false

theorem take_other {α : Type} (bs : List α) (o o' m : Nat) (cs : List α) (h : o + cs.length ≤ bs.length) (hd : o + cs.length ≤ o' ∨ o' + m ≤ o) : ((splice bs o cs).drop o').take m = (bs.drop o').take m := by
  apply List.ext_getElem?
  intro i
  rw [List.getElem?_take, List.getElem?_take]
  split
  · rw [List.getElem?_drop, List.getElem?_drop, splice_get _ _ _ h, if_neg (by omega)]
  · rfl
theorem get_put_other (bs : List Int) (a b x : Int) (h : a + 8 ≤ b ∨ b + 8 ≤ a) : getV (putV bs a 8 x) b 8 = getV bs b 8 := by
  by_cases ha : okB bs.length a 8 = true
  · have h1 := has_off (ok_of ha).2
    unfold getV
    rw [putV_length]
    by_cases hb : okB bs.length b 8 = true
    · have h2 := has_off (ok_of hb).2
      rw [if_pos hb, if_pos hb, putV, if_pos ha, take_other _ _ _ _ _ (by rw [toB_length]; exact h1.2) (by rw [toB_length]; omega)]
    · rw [if_neg hb, if_neg hb]
  · rw [putV, if_neg ha]
/-- No number of eight bytes, at a multiple of eight, is a leaf. -/
def Bare (bs : List Int) : Prop := ∀ a : Int, a % 8 = 0 → leafV (getV bs a 8) = false
theorem bare_zero (n : Nat) : Bare (List.replicate n 0) := by
  intro a ha
  have : getV (List.replicate n 0) a 8 = 0 := by
    unfold getV
    split
    · have key : ∀ l : List Int, (∀ x ∈ l, x = 0) → leV l = 0 := by
        intro l
        induction l with
        | nil => intro _; rfl
        | cons b t ih => intro hl; rw [leV, ih (fun x hx => hl x (by simp [hx])), hl b (by simp)]; rfl
      exact key _ fun x hx => List.eq_of_mem_replicate (List.mem_of_mem_drop (List.mem_of_mem_take hx))
    · rfl
  rw [this]
  decide +kernel
theorem bare_put {bs : List Int} (h : Bare bs) {a x : Int} (ha : a % 8 = 0) (hx : 0 ≤ x ∧ x ≤ 18446744073709551615) (hl : leafV x = false) : Bare (putV bs a 8 x) := by
  intro b hb
  by_cases hab : b = a
  · subst hab
    by_cases hk : okB bs.length b 8 = true
    · rw [getput8 _ _ _ hk hx]; exact hl
    · rw [putV, if_neg hk]; exact h b hb
  · rw [get_put_other _ _ _ _ (by omega)]; exact h b hb
theorem bare_down {bs : List Int} (h : Bare bs) {va k p s : Int} : ∀ (n : Nat) (page : Int) (g : Bool), (downV bs va k p s n page g).isf = true
  | 0, _, _ => rfl
  | n + 1, page, g => by
    unfold downV
    split
    · rfl
    · split
      · exact bare_down h n _ _
      · split
        · rename_i h3
          simp only [Bool.and_eq_true] at h3
          have := may_leaf h3.2
          rw [h _ (by unfold addrV; omega)] at this
          exact absurd this (by simp)
        · rfl
/-! ### Tables of one entry each -/
def slotV (va : Int) (k : Nat) : Int := (524288 + (k : Int)) * 4096 + 8 * vpnV va (2 - (k : Int))
def entV (k : Nat) : Int := makeV (524289 + (k : Int)) 1
/-- Memory behind the tables of the first k levels. -/
def tabV (va : Int) : Nat → List Int → List Int
  | 0, bs => bs
  | k + 1, bs => putV (tabV va k bs) (slotV va k) 8 (entV k)
def zV : List Int := List.replicate 16384 0
theorem tab_length (va : Int) : ∀ k, (tabV va k zV).length = 16384
  | 0 => List.length_replicate
  | k + 1 => by rw [tabV, putV_length, tab_length va k]
theorem slot_bd {va : Int} (hv : B64 va) {k : Nat} (hk : k ≤ 2) : slotV va k % 8 = 0 ∧ 2147483648 + (k : Int) * 4096 ≤ slotV va k ∧ slotV va k + 8 ≤ 2147483648 + ((k : Int) + 1) * 4096 := by
  have := vpn_bd (n := 2 - (k : Int)) hv
  unfold slotV
  omega
theorem slot_ok {va : Int} (hv : B64 va) {k : Nat} (hk : k ≤ 2) : okB 16384 (slotV va k) 8 = true := by
  have := slot_bd hv hk
  unfold okB
  rw [show widB 8 = true from rfl, Bool.true_and]
  unfold hasB
  exact decide_eq_true (by omega)
theorem ent_64 (k : Nat) : 0 ≤ entV k ∧ entV k ≤ 18446744073709551615 := make_64 _ _
theorem ent_is {k : Nat} (hk : k ≤ 1) : tableV (entV k) = true ∧ leafV (entV k) = false ∧ bt (entV k) 32 = false ∧ pageV (entV k) = 524289 + (k : Int) := by
  rcases (show k = 0 ∨ k = 1 by omega) with rfl | rfl <;> decide +kernel
theorem tab_bare {va : Int} (hv : B64 va) : ∀ k, k ≤ 2 → Bare (tabV va k zV)
  | 0, _ => bare_zero _
  | k + 1, hk => bare_put (tab_bare hv k (by omega)) (slot_bd hv (by omega)).1 (ent_64 k) (ent_is (by omega)).2.1
/-- What stands in the slots. -/
theorem slot_get {va x : Int} (hv : B64 va) (hx : 0 ≤ x ∧ x ≤ 18446744073709551615) {j : Nat} (hj : j ≤ 2) : ∀ k, k < j → getV (putV (tabV va j zV) (slotV va j) 8 x) (slotV va k) 8 = entV k := by
  intro k hk
  have hkj := slot_bd hv (k := k) (by omega)
  have hjj := slot_bd hv hj
  rw [get_put_other _ _ _ _ (by omega)]
  have key : ∀ i, k < i → i ≤ 2 → getV (tabV va i zV) (slotV va k) 8 = entV k := by
    intro i
    induction i with
    | zero => intro h; omega
    | succ i ih =>
      intro h hi
      by_cases hki : k = i
      · subst hki
        rw [tabV, getput8 _ _ _ (by rw [tab_length]; exact slot_ok hv (by omega)) (ent_64 k)]
      · have := slot_bd hv (k := i) (by omega)
        rw [tabV, get_put_other _ _ _ _ (by omega)]
        exact ih (by omega) (by omega)
  exact key j hk hj
theorem slot_get_j {va x : Int} (hv : B64 va) (hx : 0 ≤ x ∧ x ≤ 18446744073709551615) {j : Nat} (hj : j ≤ 2) : getV (putV (tabV va j zV) (slotV va j) 8 x) (slotV va j) 8 = x :=
  getput8 _ _ _ (by rw [tab_length]; exact slot_ok hv hj) hx
theorem addr_slot (va : Int) (k : Nat) (hk : k ≤ 2) (n : Nat) (hn : n = 2 - k) : addrV (524288 + (k : Int)) va n = slotV va k := by
  unfold addrV slotV
  rw [show ((n : Nat) : Int) = 2 - (k : Int) by omega]
/-- The walk comes down to the level. -/
theorem down_tab {va x kind priv st : Int} (hv : B64 va) (hx : 0 ≤ x ∧ x ≤ 18446744073709551615) {j : Nat} (hj : j ≤ 2) :
    downV (putV (tabV va j zV) (slotV va j) 8 x) va kind priv st 3 524288 false = downV (putV (tabV va j zV) (slotV va j) 8 x) va kind priv st (3 - j) (524288 + (j : Int)) false := by
  have hlen : (putV (tabV va j zV) (slotV va j) 8 x).length = 16384 := by rw [putV_length, tab_length]
  have key : ∀ k, k ≤ j → downV (putV (tabV va j zV) (slotV va j) 8 x) va kind priv st 3 524288 false = downV (putV (tabV va j zV) (slotV va j) 8 x) va kind priv st (3 - k) (524288 + (k : Int)) false := by
    intro k
    induction k with
    | zero => intro _; rfl
    | succ k ih =>
      intro h
      rw [ih (by omega), show 3 - k = (2 - k) + 1 by omega]
      conv => lhs; unfold downV
      rw [addr_slot va k (by omega) (2 - k) rfl, hlen, slot_ok hv (by omega), slot_get hv hx hj k (by omega), (ent_is (by omega)).1, (ent_is (by omega)).2.2.1, (ent_is (by omega)).2.2.2, if_neg (by simp), if_pos rfl]
      rw [show 3 - (k + 1) = 2 - k by omega, show (524289 : Int) + (k : Int) = 524288 + ((k + 1 : Nat) : Int) by omega]
      rfl
  exact key j (Nat.le_refl _)
/-- The step at the level. -/
theorem down_step {va x kind priv st : Int} (hv : B64 va) (hx : 0 ≤ x ∧ x ≤ 18446744073709551615) {j : Nat} (hj : j ≤ 2) :
    downV (putV (tabV va j zV) (slotV va j) 8 x) va kind priv st (3 - j) (524288 + (j : Int)) false =
      if tableV x = true then downV (putV (tabV va j zV) (slotV va j) 8 x) va kind priv st (2 - j) (pageV x) (bt x 32) else
      if (alignedV x (2 - j : Nat) && mayV x kind priv st) = true then foundV x (2 - j : Nat) (bt x 32) else faultV (pfC kind) va := by
  have hlen : (putV (tabV va j zV) (slotV va j) 8 x).length = 16384 := by rw [putV_length, tab_length]
  rw [show 3 - j = (2 - j) + 1 by omega]
  conv => lhs; unfold downV
  rw [addr_slot va j hj (2 - j) rfl, hlen, slot_ok hv hj, slot_get_j hv hx hj, if_neg (by simp), Bool.false_or]
end Go.Proofs.Ytaeloplmcinagaa.K
