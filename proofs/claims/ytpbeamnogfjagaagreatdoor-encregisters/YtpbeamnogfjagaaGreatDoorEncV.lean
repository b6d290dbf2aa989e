/-
  Plain mathematics of layer 6 (enc): which bits of a word say its op; the least word of an instruction; when there is one.
  Conditions: none; nothing here speaks of the program.
-/
import Derived.Test.YtpbeamnogfjagaaGreatDoorDecQ
import Derived.Test.YtpbeamnogfjagaaGreatDoorDecKV
namespace Go.Proofs.YtpbeamnogfjagaaGreatDoor.D
open Go Go.RowKit F
set_option linter.unusedVariables false

/-- The bits of a word that say its op: from which bit on, how many, what they are. -/
abbrev Flds := List (Nat × Nat × Nat)
def fI (m g : Nat) : Flds := [(0, 7, m), (12, 3, g)]
def fR (m g h : Nat) : Flds := [(0, 7, m), (12, 3, g), (25, 7, h)]
def fS (m g h : Nat) : Flds := [(0, 7, m), (12, 3, g), (26, 6, h)]
def fA (g h : Nat) : Flds := [(0, 7, 47), (12, 3, g), (27, 5, h)]
def fL (g : Nat) : Flds := [(0, 7, 47), (12, 3, g), (27, 5, 2), (20, 5, 0)]
def fW (v : Nat) : Flds := [(0, 32, v)]
def fldL : List Flds := [[],
  [(0, 7, 55)], [(0, 7, 23)], [(0, 7, 111)], fI 103 0,
  fI 99 0, fI 99 1, fI 99 4, fI 99 5, fI 99 6, fI 99 7,
  fI 3 0, fI 3 1, fI 3 2, fI 3 3, fI 3 4, fI 3 5, fI 3 6,
  fI 35 0, fI 35 1, fI 35 2, fI 35 3,
  fI 19 0, fI 19 2, fI 19 3, fI 19 4, fI 19 6, fI 19 7, fS 19 1 0, fS 19 5 0, fS 19 5 16,
  fR 51 0 0, fR 51 0 32, fR 51 1 0, fR 51 2 0, fR 51 3 0, fR 51 4 0, fR 51 5 0, fR 51 5 32, fR 51 6 0, fR 51 7 0,
  fI 27 0, fR 27 1 0, fR 27 5 0, fR 27 5 32,
  fR 59 0 0, fR 59 0 32, fR 59 1 0, fR 59 5 0, fR 59 5 32,
  fR 51 0 1, fR 51 1 1, fR 51 2 1, fR 51 3 1, fR 51 4 1, fR 51 5 1, fR 51 6 1, fR 51 7 1,
  fR 59 0 1, fR 59 4 1, fR 59 5 1, fR 59 6 1, fR 59 7 1,
  fI 15 0, fI 15 1, fW 115, fW 1048691, fW 270532723, fW 273678451, [(0, 7, 115), (12, 3, 0), (25, 7, 9), (7, 5, 0)],
  fI 115 1, fI 115 2, fI 115 3, fI 115 5, fI 115 6, fI 115 7,
  fL 2, fA 2 3, fA 2 1, fA 2 0, fA 2 4, fA 2 12, fA 2 8, fA 2 16, fA 2 20, fA 2 24, fA 2 28,
  fL 3, fA 3 3, fA 3 1, fA 3 0, fA 3 4, fA 3 12, fA 3 8, fA 3 16, fA 3 20, fA 3 24, fA 3 28]
def fldsOf (o : Int) : Flds := fldL.getD o.toNat []
/-- The word has these bits. -/
def Has (L : Flds) (x : Nat) : Prop := ∀ q ∈ L, get x q.1 q.2.1 = q.2.2
/-- A word of just these bits. -/
def baseOf : Flds → Nat
  | [] => 0
  | q :: L => q.2.2 <<< q.1 ||| baseOf L
/-- The least word of an op. -/
def baseV (o : Int) : Nat := baseOf (fldsOf o)

theorem look_inv {o : Int} (ho : o ≠ 0) : ∀ (L : Rws) (k : Int), look L k = o → (k, o) ∈ L
  | [], k, h => absurd h.symm ho
  | (a, b) :: L, k, h => by
    rw [look] at h
    split at h
    · next e => subst e; subst h; simp
    · exact List.mem_cons_of_mem _ (look_inv ho L k h)
theorem f3_nat {x : Nat} {k : Int} {n : Nat} (h : f3 x = k) (hk : k = n) : get x 12 3 = n := by unfold f3 at h; omega
theorem f7_nat {x : Nat} {k : Int} {n : Nat} (h : f7 x = k) (hk : k = n) : get x 25 7 = n := by unfold f7 at h; omega

/-! ### The op says the bits -/
theorem hasI {x : Nat} {m g : Nat} (hM : get x 0 7 = m) (h3 : get x 12 3 = g) : Has (fI m g) x := by
  intro q hq; simp [fI] at hq; rcases hq with rfl | rfl <;> assumption
theorem hasR {x : Nat} {m g h : Nat} (hM : get x 0 7 = m) (h3 : get x 12 3 = g) (h7 : get x 25 7 = h) : Has (fR m g h) x := by
  intro q hq; simp [fR] at hq; rcases hq with rfl | rfl | rfl <;> assumption
theorem hasS {x : Nat} {m g h : Nat} (hM : get x 0 7 = m) (h3 : get x 12 3 = g) (h7 : get x 26 6 = h) : Has (fS m g h) x := by
  intro q hq; simp [fS] at hq; rcases hq with rfl | rfl | rfl <;> assumption
theorem hasA {x : Nat} {g h : Nat} (hM : get x 0 7 = 47) (h3 : get x 12 3 = g) (h7 : get x 27 5 = h) : Has (fA g h) x := by
  intro q hq; simp [fA] at hq; rcases hq with rfl | rfl | rfl <;> assumption
theorem hasL {x : Nat} {g : Nat} (hM : get x 0 7 = 47) (h3 : get x 12 3 = g) (h7 : get x 27 5 = 2) (h5 : get x 20 5 = 0) : Has (fL g) x := by
  intro q hq; simp [fL] at hq; rcases hq with rfl | rfl | rfl | rfl <;> assumption
/-- Rows of a table that goes by f3. -/
theorem invI {x : Nat} {o : Int} {m : Nat} {T : Rws} (ho : o ≠ 0) (hM : get x 0 7 = m) (h : look T (f3 x) = o) (hT : ∀ p ∈ T, 0 ≤ p.1 ∧ fldsOf p.2 = fI m p.1.toNat) : Has (fldsOf o) x := by
  have hm := look_inv ho T _ h
  obtain ⟨h1, h2⟩ := hT _ hm
  rw [h2]
  refine hasI hM ?_
  have : f3 x = ((get x 12 3 : Nat) : Int) := rfl
  simp only [this]; omega
theorem invR {x : Nat} {o : Int} {m s : Nat} {T : Rws} (ho : o ≠ 0) (hM : get x 0 7 = m) (h7 : get x 25 7 = s) (h : look T (f3 x) = o) (hT : ∀ p ∈ T, 0 ≤ p.1 ∧ fldsOf p.2 = fR m p.1.toNat s) : Has (fldsOf o) x := by
  have hm := look_inv ho T _ h
  obtain ⟨h1, h2⟩ := hT _ hm
  rw [h2]
  refine hasR hM ?_ h7
  have : f3 x = ((get x 12 3 : Nat) : Int) := rfl
  simp only [this]; omega
theorem invS {x : Nat} {o : Int} {m s : Nat} {T : Rws} (ho : o ≠ 0) (hM : get x 0 7 = m) (h7 : get x 26 6 = s) (h : look T (f3 x) = o) (hT : ∀ p ∈ T, 0 ≤ p.1 ∧ fldsOf p.2 = fS m p.1.toNat s) : Has (fldsOf o) x := by
  have hm := look_inv ho T _ h
  obtain ⟨h1, h2⟩ := hT _ hm
  rw [h2]
  refine hasS hM ?_ h7
  have : f3 x = ((get x 12 3 : Nat) : Int) := rfl
  simp only [this]; omega
theorem get_whole (x : Nat) (hx : x < 4294967296) : get x 0 32 = x := by rw [get_div]; omega
set_option maxHeartbeats 1000000 in
theorem mean_has (x : Nat) (hx : x < 4294967296) (o : Int) (ho : o ≠ 0) (h : (mean x).1 = o) : Has (fldsOf o) x := by
  by_cases hM : get x 0 7 = 55
  · rw [mean, if_pos hM] at h
    subst h; intro q hq; simp [fldsOf, fldL] at hq; subst hq; exact hM
  have n55 := hM
  clear hM
  by_cases hM : get x 0 7 = 23
  · rw [mean, if_neg n55, if_pos hM] at h
    subst h; intro q hq; simp [fldsOf, fldL] at hq; subst hq; exact hM
  have n23 := hM
  clear hM
  by_cases hM : get x 0 7 = 111
  · rw [mean, if_neg n55, if_neg n23, if_pos hM] at h
    subst h; intro q hq; simp [fldsOf, fldL] at hq; subst hq; exact hM
  have n111 := hM
  clear hM
  by_cases hM : get x 0 7 = 103
  · rw [mean, if_neg n55, if_neg n23, if_neg n111, if_pos hM] at h
    exact invI ho hM h (by decide)
  have n103 := hM
  clear hM
  by_cases hM : get x 0 7 = 99
  · rw [mean, if_neg n55, if_neg n23, if_neg n111, if_neg n103, if_pos hM] at h
    exact invI ho hM h (by decide)
  have n99 := hM
  clear hM
  by_cases hM : get x 0 7 = 3
  · rw [mean, if_neg n55, if_neg n23, if_neg n111, if_neg n103, if_neg n99, if_pos hM] at h
    exact invI ho hM h (by decide)
  have n3 := hM
  clear hM
  by_cases hM : get x 0 7 = 35
  · rw [mean, if_neg n55, if_neg n23, if_neg n111, if_neg n103, if_neg n99, if_neg n3, if_pos hM] at h
    exact invI ho hM h (by decide)
  have n35 := hM
  clear hM
  by_cases hM : get x 0 7 = 19
  · rw [mean, if_neg n55, if_neg n23, if_neg n111, if_neg n103, if_neg n99, if_neg n3, if_neg n35, if_pos hM] at h
    unfold withN at h
    split at h
    · unfold tShifts at h
      split at h
      · next e => exact invS (s := 0) ho hM (by omega) h (by decide)
      split at h
      · next e => exact invS (s := 16) ho hM (by omega) h (by decide)
      · exact absurd h.symm ho
    · exact invI ho hM h (by decide)
  have n19 := hM
  clear hM
  by_cases hM : get x 0 7 = 27
  · rw [mean, if_neg n55, if_neg n23, if_neg n111, if_neg n103, if_neg n99, if_neg n3, if_neg n35, if_neg n19, if_pos hM] at h
    unfold withN32 at h
    split at h
    · next e => subst h; exact hasI hM (by unfold f3 at e; omega)
    · unfold tShifts32 at h
      split at h
      · next e => exact invR (s := 0) ho hM (f7_nat e rfl) h (by decide)
      split at h
      · next e => exact invR (s := 32) ho hM (f7_nat e rfl) h (by decide)
      · exact absurd h.symm ho
  have n27 := hM
  clear hM
  by_cases hM : get x 0 7 = 51
  · rw [mean, if_neg n55, if_neg n23, if_neg n111, if_neg n103, if_neg n99, if_neg n3, if_neg n35, if_neg n19, if_neg n27, if_pos hM] at h
    unfold tRegs at h
    split at h
    · next e => exact invR (s := 0) ho hM (f7_nat e rfl) h (by decide)
    split at h
    · next e => exact invR (s := 32) ho hM (f7_nat e rfl) h (by decide)
    split at h
    · next e => exact invR (s := 1) ho hM (f7_nat e rfl) h (by decide)
    · exact absurd h.symm ho
  have n51 := hM
  clear hM
  by_cases hM : get x 0 7 = 59
  · rw [mean, if_neg n55, if_neg n23, if_neg n111, if_neg n103, if_neg n99, if_neg n3, if_neg n35, if_neg n19, if_neg n27, if_neg n51, if_pos hM] at h
    unfold tRegs32 at h
    split at h
    · next e => exact invR (s := 0) ho hM (f7_nat e rfl) h (by decide)
    split at h
    · next e => exact invR (s := 32) ho hM (f7_nat e rfl) h (by decide)
    split at h
    · next e => exact invR (s := 1) ho hM (f7_nat e rfl) h (by decide)
    · exact absurd h.symm ho
  have n59 := hM
  clear hM
  by_cases hM : get x 0 7 = 15
  · rw [mean, if_neg n55, if_neg n23, if_neg n111, if_neg n103, if_neg n99, if_neg n3, if_neg n35, if_neg n19, if_neg n27, if_neg n51, if_neg n59, if_pos hM] at h
    exact invI ho hM h (by decide)
  have n15 := hM
  clear hM
  by_cases hM : get x 0 7 = 115
  · rw [mean, if_neg n55, if_neg n23, if_neg n111, if_neg n103, if_neg n99, if_neg n3, if_neg n35, if_neg n19, if_neg n27, if_neg n51, if_neg n59, if_neg n15, if_pos hM] at h
    unfold sysV at h
    split at h
    · exact invI ho hM h (by decide)
    · next e =>
      split at h
      · next e2 =>
        subst h
        intro q hq
        simp [fldsOf, fldL] at hq
        rcases hq with rfl | rfl | rfl | rfl
        · exact hM
        · exact f3_nat (Classical.not_not.1 e) rfl
        · exact f7_nat e2.1 rfl
        · exact e2.2
      · have hm := look_inv ho tWholes _ h
        have hw := get_whole x hx
        simp [tWholes] at hm
        rcases hm with ⟨e1, rfl⟩ | ⟨e1, rfl⟩ | ⟨e1, rfl⟩ | ⟨e1, rfl⟩
        all_goals (intro q hq; simp [fldsOf, fldL, fW] at hq; subst hq; exact hw.trans (by simp only; omega))
  have n115 := hM
  clear hM
  by_cases hM : get x 0 7 = 47
  · rw [mean, if_neg n55, if_neg n23, if_neg n111, if_neg n103, if_neg n99, if_neg n3, if_neg n35, if_neg n19, if_neg n27, if_neg n51, if_neg n59, if_neg n15, if_neg n115, if_pos hM] at h
    unfold atoV at h
    simp only at h
    split at h
    · exact absurd h.symm ho
    · next e =>
      have hm := look_inv (o := look tAtomics (get x 27 5 : Nat)) (by omega) tAtomics _ rfl
      have hg : f3 x = 2 ∨ f3 x = 3 := by omega
      split at h
      · next e2 =>
        have e27 : get x 27 5 = 2 := by rw [e2] at hm; simp [tAtomics] at hm; omega
        split at h
        · exact absurd h.symm ho
        · next e3 =>
          rcases hg with hg | hg
          · rw [if_neg (by omega)] at h; subst h; exact hasL hM (f3_nat hg rfl) e27 (by omega)
          · rw [if_pos hg] at h; subst h; exact hasL hM (f3_nat hg rfl) e27 (by omega)
      · next e2 =>
        generalize look tAtomics (get x 27 5 : Nat) = op at *
        have hT : ∀ p ∈ tAtomics, p.2 ≠ 76 → 0 ≤ p.1 ∧ fldsOf p.2 = fA 2 p.1.toNat ∧ fldsOf (p.2 + 11) = fA 3 p.1.toNat := by decide
        obtain ⟨h1, h2, h3⟩ := hT _ hm e2
        rcases hg with hg | hg
        · rw [if_neg (by omega)] at h; subst h; rw [h2]; exact hasA hM (f3_nat hg rfl) (by simp only; omega)
        · rw [if_pos hg] at h; subst h; rw [h3]; exact hasA hM (f3_nat hg rfl) (by simp only; omega)
  have n47 := hM
  clear hM
  rw [mean, if_neg n55, if_neg n23, if_neg n111, if_neg n103, if_neg n99, if_neg n3, if_neg n35, if_neg n19, if_neg n27, if_neg n51, if_neg n59, if_neg n15, if_neg n115, if_neg n47] at h
  exact absurd h.symm ho

/-! ### The bits say the op -/
theorem has_get {L : Flds} {x : Nat} (h : Has L x) {l m c : Nat} (hq : (l, m, c) ∈ L) : get x l m = c := h (l, m, c) hq
theorem mean_103 {x : Nat} (h : get x 0 7 = 103) : mean x = (look tIndirect (f3 x), src x (immV x 1)) := by simp [mean, h]
theorem mean_99 {x : Nat} (h : get x 0 7 = 99) : mean x = (look tBranches (f3 x), par x (immV x 3)) := by simp [mean, h]
theorem mean_3 {x : Nat} (h : get x 0 7 = 3) : mean x = (look tLoads (f3 x), src x (immV x 1)) := by simp [mean, h]
theorem mean_35 {x : Nat} (h : get x 0 7 = 35) : mean x = (look tStores (f3 x), par x (immV x 2)) := by simp [mean, h]
theorem mean_19 {x : Nat} (h : get x 0 7 = 19) : mean x = withN x (f3 x) := by simp [mean, h]
theorem mean_27 {x : Nat} (h : get x 0 7 = 27) : mean x = withN32 x (f3 x) (f7 x) := by simp [mean, h]
theorem mean_51 {x : Nat} (h : get x 0 7 = 51) : mean x = (look (tRegs (f7 x)) (f3 x), thr x) := by simp [mean, h]
theorem mean_59 {x : Nat} (h : get x 0 7 = 59) : mean x = (look (tRegs32 (f7 x)) (f3 x), thr x) := by simp [mean, h]
theorem mean_15 {x : Nat} (h : get x 0 7 = 15) : mean x = (look tFences (f3 x), bar) := by simp [mean, h]
theorem mean_115 {x : Nat} (h : get x 0 7 = 115) : mean x = sysV x (f3 x) (f7 x) := by simp [mean, h]
theorem mean_47 {x : Nat} (h : get x 0 7 = 47) : mean x = atoV x (f3 x) := by simp [mean, h]
theorem f3_of {x n : Nat} (h : get x 12 3 = n) : f3 x = n := by rw [f3, h]
theorem f7_of {x n : Nat} (h : get x 25 7 = n) : f7 x = n := by rw [f7, h]
theorem range_split (o : Int) (ho : 1 ≤ o ∧ o ≤ 97) : ∃ n : Nat, n ∈ List.range 98 ∧ n ≠ 0 ∧ o = n := ⟨o.toNat, by simp; omega, by omega, by omega⟩
theorem hI {x m g : Nat} (h : Has (fI m g) x) : get x 0 7 = m ∧ f3 x = g := ⟨has_get h (c := m) (by simp [fI]), f3_of (has_get h (c := g) (by simp [fI]))⟩
theorem hR {x m g s : Nat} (h : Has (fR m g s) x) : get x 0 7 = m ∧ f3 x = g ∧ f7 x = s := ⟨has_get h (c := m) (by simp [fR]), f3_of (has_get h (c := g) (by simp [fR])), f7_of (has_get h (c := s) (by simp [fR]))⟩
theorem hS {x m g s : Nat} (h : Has (fS m g s) x) : get x 0 7 = m ∧ f3 x = g ∧ get x 26 6 = s := ⟨has_get h (c := m) (by simp [fS]), f3_of (has_get h (c := g) (by simp [fS])), has_get h (c := s) (by simp [fS])⟩
theorem hA {x g s : Nat} (h : Has (fA g s) x) : get x 0 7 = 47 ∧ f3 x = g ∧ get x 27 5 = s := ⟨has_get h (c := 47) (by simp [fA]), f3_of (has_get h (c := g) (by simp [fA])), has_get h (c := s) (by simp [fA])⟩
theorem hL' {x g : Nat} (h : Has (fL g) x) : get x 0 7 = 47 ∧ f3 x = g ∧ get x 27 5 = 2 ∧ get x 20 5 = 0 := ⟨has_get h (c := 47) (by simp [fL]), f3_of (has_get h (c := g) (by simp [fL])), has_get h (c := 2) (by simp [fL]), has_get h (c := 0) (by simp [fL])⟩
theorem opI (T : Rws) {x : Nat} {M : Nat} {o : Int} {q : Parts} (hm : get x 0 7 = M → mean x = (look T (f3 x), q)) {g : Nat} (h : Has (fI M g) x) (e : look T g = o) : (mean x).1 = o := by
  obtain ⟨h1, h2⟩ := hI h
  rw [hm h1, h2]; exact e
theorem op19 {x g : Nat} {o : Int} (h : Has (fI 19 g) x) (hg : ¬ ((g : Int) = 1 ∨ (g : Int) = 5)) (e : look tPlain g = o) : (mean x).1 = o := by
  obtain ⟨h1, h2⟩ := hI h
  rw [mean_19 h1, h2, withN, if_neg hg]; exact e
theorem op19s {x g s : Nat} {o : Int} (h : Has (fS 19 g s) x) (hg : (g : Int) = 1 ∨ (g : Int) = 5) (e : look (tShifts s) g = o) : (mean x).1 = o := by
  obtain ⟨h1, h2, h3⟩ := hS h
  rw [mean_19 h1, h2, withN, if_pos hg, h3]; exact e
theorem op27 {x : Nat} (h : Has (fI 27 0) x) : (mean x).1 = 41 := by
  obtain ⟨h1, h2⟩ := hI h
  rw [mean_27 h1, h2, withN32]; simp
theorem op27s {x g s : Nat} {o : Int} (h : Has (fR 27 g s) x) (hg : (g : Int) ≠ 0) (e : look (tShifts32 s) g = o) : (mean x).1 = o := by
  obtain ⟨h1, h2, h3⟩ := hR h
  rw [mean_27 h1, h2, h3, withN32, if_neg hg]; exact e
theorem op51 {x g s : Nat} {o : Int} (h : Has (fR 51 g s) x) (e : look (tRegs s) g = o) : (mean x).1 = o := by
  obtain ⟨h1, h2, h3⟩ := hR h
  rw [mean_51 h1, h2, h3]; exact e
theorem op59 {x g s : Nat} {o : Int} (h : Has (fR 59 g s) x) (e : look (tRegs32 s) g = o) : (mean x).1 = o := by
  obtain ⟨h1, h2, h3⟩ := hR h
  rw [mean_59 h1, h2, h3]; exact e
theorem op115 {x g : Nat} {o : Int} (h : Has (fI 115 g) x) (hg : (g : Int) ≠ 0) (e : look tCsrs g = o) : (mean x).1 = o := by
  obtain ⟨h1, h2⟩ := hI h
  rw [mean_115 h1, h2, sysV, if_pos hg]; exact e
theorem opW {x v : Nat} {o : Int} (hx : x < 4294967296) (h : Has (fW v) x) (hv : get v 0 7 = 115 ∧ f3 v = 0 ∧ f7 v ≠ 9) (e : look tWholes v = o) : (mean x).1 = o := by
  have hh := has_get h (l := 0) (m := 32) (c := v) (by simp [fW])
  rw [get_whole x hx] at hh
  subst hh
  rw [mean_115 hv.1, sysV, if_neg (by rw [hv.2.1]; omega), if_neg (fun k => hv.2.2 k.1)]; exact e
theorem op69 {x : Nat} (h : Has [(0, 7, 115), (12, 3, 0), (25, 7, 9), (7, 5, 0)] x) : (mean x).1 = 69 := by
  have h1 := has_get h (l := 0) (m := 7) (c := 115) (by simp)
  have h2 := f3_of (has_get h (l := 12) (m := 3) (c := 0) (by simp))
  have h3 := f7_of (has_get h (l := 25) (m := 7) (c := 9) (by simp))
  have h4 := has_get h (l := 7) (m := 5) (c := 0) (by simp)
  rw [mean_115 h1, h2, h3, sysV, if_neg (by simp), if_pos ⟨rfl, h4⟩]
theorem opA {x g s : Nat} {o : Int} (h : Has (fA g s) x) (hg : (g : Int) = 2 ∨ (g : Int) = 3) (h0 : look tAtomics s ≠ 0) (h1 : look tAtomics s ≠ 76) (e : (if (g : Int) = 3 then look tAtomics s + 11 else look tAtomics s) = o) : (mean x).1 = o := by
  obtain ⟨k1, k2, k3⟩ := hA h
  rw [mean_47 k1, k2, atoV, k3]
  rw [if_neg (by omega), if_neg h1]; exact e
theorem opL {x g : Nat} {o : Int} (h : Has (fL g) x) (hg : (g : Int) = 2 ∨ (g : Int) = 3) (e : (if (g : Int) = 3 then (87 : Int) else 76) = o) : (mean x).1 = o := by
  obtain ⟨k1, k2, k3, k4⟩ := hL' h
  rw [mean_47 k1, k2, atoV, k3, show look tAtomics ((2 : Nat) : Int) = 76 from rfl]
  rw [if_neg (by omega), if_pos rfl, if_neg (by omega)]; exact e
set_option maxHeartbeats 1000000 in
theorem has_mean (x : Nat) (hx : x < 4294967296) (o : Int) (ho : 1 ≤ o ∧ o ≤ 97) (h : Has (fldsOf o) x) : (mean x).1 = o := by
  rcases (show (1 ≤ o ∧ o ≤ 4) ∨ (5 ≤ o ∧ o ≤ 10) ∨ (11 ≤ o ∧ o ≤ 17) ∨ (18 ≤ o ∧ o ≤ 21) ∨ (22 ≤ o ∧ o ≤ 30) ∨ (31 ≤ o ∧ o ≤ 40) ∨ (41 ≤ o ∧ o ≤ 49) ∨ (50 ≤ o ∧ o ≤ 57) ∨ (58 ≤ o ∧ o ≤ 62) ∨ (63 ≤ o ∧ o ≤ 69) ∨ (70 ≤ o ∧ o ≤ 75) ∨ (76 ≤ o ∧ o ≤ 86) ∨ (87 ≤ o ∧ o ≤ 97) by omega) with hr | hr | hr | hr | hr | hr | hr | hr | hr | hr | hr | hr | hr
  · rcases (show o = 1 ∨ o = 2 ∨ o = 3 ∨ o = 4 by omega) with rfl | rfl | rfl | rfl
    · have h1 : get x 0 7 = 55 := has_get (L := [(0, 7, 55)]) h (by simp); simp [mean, h1]
    · have h1 : get x 0 7 = 23 := has_get (L := [(0, 7, 23)]) h (by simp); simp [mean, h1]
    · have h1 : get x 0 7 = 111 := has_get (L := [(0, 7, 111)]) h (by simp); simp [mean, h1]
    · exact opI tIndirect (M := 103) mean_103 h (by decide)
  · rcases (show o = 5 ∨ o = 6 ∨ o = 7 ∨ o = 8 ∨ o = 9 ∨ o = 10 by omega) with rfl | rfl | rfl | rfl | rfl | rfl
    · exact opI tBranches (M := 99) mean_99 h (by decide)
    · exact opI tBranches (M := 99) mean_99 h (by decide)
    · exact opI tBranches (M := 99) mean_99 h (by decide)
    · exact opI tBranches (M := 99) mean_99 h (by decide)
    · exact opI tBranches (M := 99) mean_99 h (by decide)
    · exact opI tBranches (M := 99) mean_99 h (by decide)
  · rcases (show o = 11 ∨ o = 12 ∨ o = 13 ∨ o = 14 ∨ o = 15 ∨ o = 16 ∨ o = 17 by omega) with rfl | rfl | rfl | rfl | rfl | rfl | rfl
    · exact opI tLoads (M := 3) mean_3 h (by decide)
    · exact opI tLoads (M := 3) mean_3 h (by decide)
    · exact opI tLoads (M := 3) mean_3 h (by decide)
    · exact opI tLoads (M := 3) mean_3 h (by decide)
    · exact opI tLoads (M := 3) mean_3 h (by decide)
    · exact opI tLoads (M := 3) mean_3 h (by decide)
    · exact opI tLoads (M := 3) mean_3 h (by decide)
  · rcases (show o = 18 ∨ o = 19 ∨ o = 20 ∨ o = 21 by omega) with rfl | rfl | rfl | rfl
    · exact opI tStores (M := 35) mean_35 h (by decide)
    · exact opI tStores (M := 35) mean_35 h (by decide)
    · exact opI tStores (M := 35) mean_35 h (by decide)
    · exact opI tStores (M := 35) mean_35 h (by decide)
  · rcases (show o = 22 ∨ o = 23 ∨ o = 24 ∨ o = 25 ∨ o = 26 ∨ o = 27 ∨ o = 28 ∨ o = 29 ∨ o = 30 by omega) with rfl | rfl | rfl | rfl | rfl | rfl | rfl | rfl | rfl
    · exact op19 h (by decide) (by decide)
    · exact op19 h (by decide) (by decide)
    · exact op19 h (by decide) (by decide)
    · exact op19 h (by decide) (by decide)
    · exact op19 h (by decide) (by decide)
    · exact op19 h (by decide) (by decide)
    · exact op19s h (by decide) (by decide)
    · exact op19s h (by decide) (by decide)
    · exact op19s h (by decide) (by decide)
  · rcases (show o = 31 ∨ o = 32 ∨ o = 33 ∨ o = 34 ∨ o = 35 ∨ o = 36 ∨ o = 37 ∨ o = 38 ∨ o = 39 ∨ o = 40 by omega) with rfl | rfl | rfl | rfl | rfl | rfl | rfl | rfl | rfl | rfl
    · exact op51 h (by decide)
    · exact op51 h (by decide)
    · exact op51 h (by decide)
    · exact op51 h (by decide)
    · exact op51 h (by decide)
    · exact op51 h (by decide)
    · exact op51 h (by decide)
    · exact op51 h (by decide)
    · exact op51 h (by decide)
    · exact op51 h (by decide)
  · rcases (show o = 41 ∨ o = 42 ∨ o = 43 ∨ o = 44 ∨ o = 45 ∨ o = 46 ∨ o = 47 ∨ o = 48 ∨ o = 49 by omega) with rfl | rfl | rfl | rfl | rfl | rfl | rfl | rfl | rfl
    · exact op27 h
    · exact op27s h (by decide) (by decide)
    · exact op27s h (by decide) (by decide)
    · exact op27s h (by decide) (by decide)
    · exact op59 h (by decide)
    · exact op59 h (by decide)
    · exact op59 h (by decide)
    · exact op59 h (by decide)
    · exact op59 h (by decide)
  · rcases (show o = 50 ∨ o = 51 ∨ o = 52 ∨ o = 53 ∨ o = 54 ∨ o = 55 ∨ o = 56 ∨ o = 57 by omega) with rfl | rfl | rfl | rfl | rfl | rfl | rfl | rfl
    · exact op51 h (by decide)
    · exact op51 h (by decide)
    · exact op51 h (by decide)
    · exact op51 h (by decide)
    · exact op51 h (by decide)
    · exact op51 h (by decide)
    · exact op51 h (by decide)
    · exact op51 h (by decide)
  · rcases (show o = 58 ∨ o = 59 ∨ o = 60 ∨ o = 61 ∨ o = 62 by omega) with rfl | rfl | rfl | rfl | rfl
    · exact op59 h (by decide)
    · exact op59 h (by decide)
    · exact op59 h (by decide)
    · exact op59 h (by decide)
    · exact op59 h (by decide)
  · rcases (show o = 63 ∨ o = 64 ∨ o = 65 ∨ o = 66 ∨ o = 67 ∨ o = 68 ∨ o = 69 by omega) with rfl | rfl | rfl | rfl | rfl | rfl | rfl
    · exact opI tFences (M := 15) mean_15 h (by decide)
    · exact opI tFences (M := 15) mean_15 h (by decide)
    · exact opW hx h (by decide) (by decide)
    · exact opW hx h (by decide) (by decide)
    · exact opW hx h (by decide) (by decide)
    · exact opW hx h (by decide) (by decide)
    · exact op69 h
  · rcases (show o = 70 ∨ o = 71 ∨ o = 72 ∨ o = 73 ∨ o = 74 ∨ o = 75 by omega) with rfl | rfl | rfl | rfl | rfl | rfl
    · exact op115 h (by decide) (by decide)
    · exact op115 h (by decide) (by decide)
    · exact op115 h (by decide) (by decide)
    · exact op115 h (by decide) (by decide)
    · exact op115 h (by decide) (by decide)
    · exact op115 h (by decide) (by decide)
  · rcases (show o = 76 ∨ o = 77 ∨ o = 78 ∨ o = 79 ∨ o = 80 ∨ o = 81 ∨ o = 82 ∨ o = 83 ∨ o = 84 ∨ o = 85 ∨ o = 86 by omega) with rfl | rfl | rfl | rfl | rfl | rfl | rfl | rfl | rfl | rfl | rfl
    · exact opL h (by decide) (by decide)
    · exact opA h (by decide) (by decide) (by decide) (by decide)
    · exact opA h (by decide) (by decide) (by decide) (by decide)
    · exact opA h (by decide) (by decide) (by decide) (by decide)
    · exact opA h (by decide) (by decide) (by decide) (by decide)
    · exact opA h (by decide) (by decide) (by decide) (by decide)
    · exact opA h (by decide) (by decide) (by decide) (by decide)
    · exact opA h (by decide) (by decide) (by decide) (by decide)
    · exact opA h (by decide) (by decide) (by decide) (by decide)
    · exact opA h (by decide) (by decide) (by decide) (by decide)
    · exact opA h (by decide) (by decide) (by decide) (by decide)
  · rcases (show o = 87 ∨ o = 88 ∨ o = 89 ∨ o = 90 ∨ o = 91 ∨ o = 92 ∨ o = 93 ∨ o = 94 ∨ o = 95 ∨ o = 96 ∨ o = 97 by omega) with rfl | rfl | rfl | rfl | rfl | rfl | rfl | rfl | rfl | rfl | rfl
    · exact opL h (by decide) (by decide)
    · exact opA h (by decide) (by decide) (by decide) (by decide)
    · exact opA h (by decide) (by decide) (by decide) (by decide)
    · exact opA h (by decide) (by decide) (by decide) (by decide)
    · exact opA h (by decide) (by decide) (by decide) (by decide)
    · exact opA h (by decide) (by decide) (by decide) (by decide)
    · exact opA h (by decide) (by decide) (by decide) (by decide)
    · exact opA h (by decide) (by decide) (by decide) (by decide)
    · exact opA h (by decide) (by decide) (by decide) (by decide)
    · exact opA h (by decide) (by decide) (by decide) (by decide)
    · exact opA h (by decide) (by decide) (by decide) (by decide)
/-- A word is of an op just if it has its bits. -/
theorem word_op (x : Nat) (hx : x < 4294967296) (o : Int) (ho : 1 ≤ o ∧ o ≤ 97) : (wordV x).1 = o ↔ Has (fldsOf o) x := by
  constructor
  · intro h
    refine mean_has x hx o (by omega) ?_
    unfold wordV at h
    split at h
    · simp at h; omega
    · exact h
  · intro h
    have := has_mean x hx o ho h
    unfold wordV
    rw [if_neg (by omega)]; exact this
end Go.Proofs.YtpbeamnogfjagaaGreatDoor.D
