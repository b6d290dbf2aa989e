/-
  Plain mathematics of layer 6 (enc): which bits of a word say its op; the least word of an instruction; when there is one.
  Plain mathematics of layer 6 (enc): an instruction that a word can say, laid as a word, is that instruction; the instruction of any word is such a one, and its word is no greater.
  Plain mathematics of layer 6 (enc): the word of an instruction; what is laid is that instruction; and is the least.
  Plain mathematics of layer 6 (enc): the names of ops.
  Conditions: each part's own: the arguments are numbers of their kinds; the tables hold what the program's text lays.
-/
import Derived.Test.YtpbeamnogfjagaaGreatDoorDecQ
import Derived.Test.YtpbeamnogfjagaaGreatDoorDecKV
section
namespace Go.Proofs.YtpbeamnogfjagaaGreatDoor.D
open Go Go.RowKit F
set_option linter.unusedVariables false

/-- The bits of a word that say its op: from which bit on, how many, what they are. -/
abbrev Flds := List (Nat × Nat × Nat)
def fI (m g : Nat) : Flds := [(0, 7, m), (12, 3, g)]
def fR (m g h : Nat) : Flds := [(0, 7, m), (12, 3, g), (25, 7, h)]
def fS (m g h : Nat) : Flds := [(0, 7, m), (12, 3, g), (26, 6, h)]
def fA (g h : Nat) : Flds := [(0, 7, 47), (12, 3, g), (27, 5, h)]
def fL (g : Nat) : Flds := [(0, 7, 47), (12, 3, g), (27, 5, 2), (20, 5, 0)]
def fW (v : Nat) : Flds := [(0, 32, v)]
def fldL : List Flds := [[],
  [(0, 7, 55)], [(0, 7, 23)], [(0, 7, 111)], fI 103 0,
  fI 99 0, fI 99 1, fI 99 4, fI 99 5, fI 99 6, fI 99 7,
  fI 3 0, fI 3 1, fI 3 2, fI 3 3, fI 3 4, fI 3 5, fI 3 6,
  fI 35 0, fI 35 1, fI 35 2, fI 35 3,
  fI 19 0, fI 19 2, fI 19 3, fI 19 4, fI 19 6, fI 19 7, fS 19 1 0, fS 19 5 0, fS 19 5 16,
  fR 51 0 0, fR 51 0 32, fR 51 1 0, fR 51 2 0, fR 51 3 0, fR 51 4 0, fR 51 5 0, fR 51 5 32, fR 51 6 0, fR 51 7 0,
  fI 27 0, fR 27 1 0, fR 27 5 0, fR 27 5 32,
  fR 59 0 0, fR 59 0 32, fR 59 1 0, fR 59 5 0, fR 59 5 32,
  fR 51 0 1, fR 51 1 1, fR 51 2 1, fR 51 3 1, fR 51 4 1, fR 51 5 1, fR 51 6 1, fR 51 7 1,
  fR 59 0 1, fR 59 4 1, fR 59 5 1, fR 59 6 1, fR 59 7 1,
  fI 15 0, fI 15 1, fW 115, fW 1048691, fW 270532723, fW 273678451, [(0, 7, 115), (12, 3, 0), (25, 7, 9), (7, 5, 0)],
  fI 115 1, fI 115 2, fI 115 3, fI 115 5, fI 115 6, fI 115 7,
  fL 2, fA 2 3, fA 2 1, fA 2 0, fA 2 4, fA 2 12, fA 2 8, fA 2 16, fA 2 20, fA 2 24, fA 2 28,
  fL 3, fA 3 3, fA 3 1, fA 3 0, fA 3 4, fA 3 12, fA 3 8, fA 3 16, fA 3 20, fA 3 24, fA 3 28]
def fldsOf (o : Int) : Flds := fldL.getD o.toNat []
/-- The word has these bits. -/
def Has (L : Flds) (x : Nat) : Prop := ∀ q ∈ L, get x q.1 q.2.1 = q.2.2
/-- A word of just these bits. -/
def baseOf : Flds → Nat
  | [] => 0
  | q :: L => q.2.2 <<< q.1 ||| baseOf L
/-- The least word of an op. -/
def baseV (o : Int) : Nat := baseOf (fldsOf o)

theorem look_inv {o : Int} (ho : o ≠ 0) : ∀ (L : Rws) (k : Int), look L k = o → (k, o) ∈ L
  | [], k, h => absurd h.symm ho
  | (a, b) :: L, k, h => by
    rw [look] at h
    split at h
    · next e => subst e; subst h; simp
    · exact List.mem_cons_of_mem _ (look_inv ho L k h)
theorem f3_nat {x : Nat} {k : Int} {n : Nat} (h : f3 x = k) (hk : k = n) : get x 12 3 = n := by unfold f3 at h; omega
theorem f7_nat {x : Nat} {k : Int} {n : Nat} (h : f7 x = k) (hk : k = n) : get x 25 7 = n := by unfold f7 at h; omega

/-! ### The op says the bits -/
theorem hasI {x : Nat} {m g : Nat} (hM : get x 0 7 = m) (h3 : get x 12 3 = g) : Has (fI m g) x := by
  intro q hq; simp [fI] at hq; rcases hq with rfl | rfl <;> assumption
theorem hasR {x : Nat} {m g h : Nat} (hM : get x 0 7 = m) (h3 : get x 12 3 = g) (h7 : get x 25 7 = h) : Has (fR m g h) x := by
  intro q hq; simp [fR] at hq; rcases hq with rfl | rfl | rfl <;> assumption
theorem hasS {x : Nat} {m g h : Nat} (hM : get x 0 7 = m) (h3 : get x 12 3 = g) (h7 : get x 26 6 = h) : Has (fS m g h) x := by
  intro q hq; simp [fS] at hq; rcases hq with rfl | rfl | rfl <;> assumption
theorem hasA {x : Nat} {g h : Nat} (hM : get x 0 7 = 47) (h3 : get x 12 3 = g) (h7 : get x 27 5 = h) : Has (fA g h) x := by
  intro q hq; simp [fA] at hq; rcases hq with rfl | rfl | rfl <;> assumption
theorem hasL {x : Nat} {g : Nat} (hM : get x 0 7 = 47) (h3 : get x 12 3 = g) (h7 : get x 27 5 = 2) (h5 : get x 20 5 = 0) : Has (fL g) x := by
  intro q hq; simp [fL] at hq; rcases hq with rfl | rfl | rfl | rfl <;> assumption
/-- Rows of a table that goes by f3. -/
theorem invI {x : Nat} {o : Int} {m : Nat} {T : Rws} (ho : o ≠ 0) (hM : get x 0 7 = m) (h : look T (f3 x) = o) (hT : ∀ p ∈ T, 0 ≤ p.1 ∧ fldsOf p.2 = fI m p.1.toNat) : Has (fldsOf o) x := by
  have hm := look_inv ho T _ h
  obtain ⟨h1, h2⟩ := hT _ hm
  rw [h2]
  refine hasI hM ?_
  have : f3 x = ((get x 12 3 : Nat) : Int) := rfl
  simp only [this]; omega
theorem invR {x : Nat} {o : Int} {m s : Nat} {T : Rws} (ho : o ≠ 0) (hM : get x 0 7 = m) (h7 : get x 25 7 = s) (h : look T (f3 x) = o) (hT : ∀ p ∈ T, 0 ≤ p.1 ∧ fldsOf p.2 = fR m p.1.toNat s) : Has (fldsOf o) x := by
  have hm := look_inv ho T _ h
  obtain ⟨h1, h2⟩ := hT _ hm
  rw [h2]
  refine hasR hM ?_ h7
  have : f3 x = ((get x 12 3 : Nat) : Int) := rfl
  simp only [this]; omega
theorem invS {x : Nat} {o : Int} {m s : Nat} {T : Rws} (ho : o ≠ 0) (hM : get x 0 7 = m) (h7 : get x 26 6 = s) (h : look T (f3 x) = o) (hT : ∀ p ∈ T, 0 ≤ p.1 ∧ fldsOf p.2 = fS m p.1.toNat s) : Has (fldsOf o) x := by
  have hm := look_inv ho T _ h
  obtain ⟨h1, h2⟩ := hT _ hm
  rw [h2]
  refine hasS hM ?_ h7
  have : f3 x = ((get x 12 3 : Nat) : Int) := rfl
  simp only [this]; omega
theorem get_whole (x : Nat) (hx : x < 4294967296) : get x 0 32 = x := by rw [get_div]; omega
set_option maxHeartbeats 1000000 in
theorem mean_has (x : Nat) (hx : x < 4294967296) (o : Int) (ho : o ≠ 0) (h : (mean x).1 = o) : Has (fldsOf o) x := by
  by_cases hM : get x 0 7 = 55
  · rw [mean, if_pos hM] at h
    subst h; intro q hq; simp [fldsOf, fldL] at hq; subst hq; exact hM
  have n55 := hM
  clear hM
  by_cases hM : get x 0 7 = 23
  · rw [mean, if_neg n55, if_pos hM] at h
    subst h; intro q hq; simp [fldsOf, fldL] at hq; subst hq; exact hM
  have n23 := hM
  clear hM
  by_cases hM : get x 0 7 = 111
  · rw [mean, if_neg n55, if_neg n23, if_pos hM] at h
    subst h; intro q hq; simp [fldsOf, fldL] at hq; subst hq; exact hM
  have n111 := hM
  clear hM
  by_cases hM : get x 0 7 = 103
  · rw [mean, if_neg n55, if_neg n23, if_neg n111, if_pos hM] at h
    exact invI ho hM h (by decide)
  have n103 := hM
  clear hM
  by_cases hM : get x 0 7 = 99
  · rw [mean, if_neg n55, if_neg n23, if_neg n111, if_neg n103, if_pos hM] at h
    exact invI ho hM h (by decide)
  have n99 := hM
  clear hM
  by_cases hM : get x 0 7 = 3
  · rw [mean, if_neg n55, if_neg n23, if_neg n111, if_neg n103, if_neg n99, if_pos hM] at h
    exact invI ho hM h (by decide)
  have n3 := hM
  clear hM
  by_cases hM : get x 0 7 = 35
  · rw [mean, if_neg n55, if_neg n23, if_neg n111, if_neg n103, if_neg n99, if_neg n3, if_pos hM] at h
    exact invI ho hM h (by decide)
  have n35 := hM
  clear hM
  by_cases hM : get x 0 7 = 19
  · rw [mean, if_neg n55, if_neg n23, if_neg n111, if_neg n103, if_neg n99, if_neg n3, if_neg n35, if_pos hM] at h
    unfold withN at h
    split at h
    · unfold tShifts at h
      split at h
      · next e => exact invS (s := 0) ho hM (by omega) h (by decide)
      split at h
      · next e => exact invS (s := 16) ho hM (by omega) h (by decide)
      · exact absurd h.symm ho
    · exact invI ho hM h (by decide)
  have n19 := hM
  clear hM
  by_cases hM : get x 0 7 = 27
  · rw [mean, if_neg n55, if_neg n23, if_neg n111, if_neg n103, if_neg n99, if_neg n3, if_neg n35, if_neg n19, if_pos hM] at h
    unfold withN32 at h
    split at h
    · next e => subst h; exact hasI hM (by unfold f3 at e; omega)
    · unfold tShifts32 at h
      split at h
      · next e => exact invR (s := 0) ho hM (f7_nat e rfl) h (by decide)
      split at h
      · next e => exact invR (s := 32) ho hM (f7_nat e rfl) h (by decide)
      · exact absurd h.symm ho
  have n27 := hM
  clear hM
  by_cases hM : get x 0 7 = 51
  · rw [mean, if_neg n55, if_neg n23, if_neg n111, if_neg n103, if_neg n99, if_neg n3, if_neg n35, if_neg n19, if_neg n27, if_pos hM] at h
    unfold tRegs at h
    split at h
    · next e => exact invR (s := 0) ho hM (f7_nat e rfl) h (by decide)
    split at h
    · next e => exact invR (s := 32) ho hM (f7_nat e rfl) h (by decide)
    split at h
    · next e => exact invR (s := 1) ho hM (f7_nat e rfl) h (by decide)
    · exact absurd h.symm ho
  have n51 := hM
  clear hM
  by_cases hM : get x 0 7 = 59
  · rw [mean, if_neg n55, if_neg n23, if_neg n111, if_neg n103, if_neg n99, if_neg n3, if_neg n35, if_neg n19, if_neg n27, if_neg n51, if_pos hM] at h
    unfold tRegs32 at h
    split at h
    · next e => exact invR (s := 0) ho hM (f7_nat e rfl) h (by decide)
    split at h
    · next e => exact invR (s := 32) ho hM (f7_nat e rfl) h (by decide)
    split at h
    · next e => exact invR (s := 1) ho hM (f7_nat e rfl) h (by decide)
    · exact absurd h.symm ho
  have n59 := hM
  clear hM
  by_cases hM : get x 0 7 = 15
  · rw [mean, if_neg n55, if_neg n23, if_neg n111, if_neg n103, if_neg n99, if_neg n3, if_neg n35, if_neg n19, if_neg n27, if_neg n51, if_neg n59, if_pos hM] at h
    exact invI ho hM h (by decide)
  have n15 := hM
  clear hM
  by_cases hM : get x 0 7 = 115
  · rw [mean, if_neg n55, if_neg n23, if_neg n111, if_neg n103, if_neg n99, if_neg n3, if_neg n35, if_neg n19, if_neg n27, if_neg n51, if_neg n59, if_neg n15, if_pos hM] at h
    unfold sysV at h
    split at h
    · exact invI ho hM h (by decide)
    · next e =>
      split at h
      · next e2 =>
        subst h
        intro q hq
        simp [fldsOf, fldL] at hq
        rcases hq with rfl | rfl | rfl | rfl
        · exact hM
        · exact f3_nat (Classical.not_not.1 e) rfl
        · exact f7_nat e2.1 rfl
        · exact e2.2
      · have hm := look_inv ho tWholes _ h
        have hw := get_whole x hx
        simp [tWholes] at hm
        rcases hm with ⟨e1, rfl⟩ | ⟨e1, rfl⟩ | ⟨e1, rfl⟩ | ⟨e1, rfl⟩
        all_goals (intro q hq; simp [fldsOf, fldL, fW] at hq; subst hq; exact hw.trans (by simp only; omega))
  have n115 := hM
  clear hM
  by_cases hM : get x 0 7 = 47
  · rw [mean, if_neg n55, if_neg n23, if_neg n111, if_neg n103, if_neg n99, if_neg n3, if_neg n35, if_neg n19, if_neg n27, if_neg n51, if_neg n59, if_neg n15, if_neg n115, if_pos hM] at h
    unfold atoV at h
    simp only at h
    split at h
    · exact absurd h.symm ho
    · next e =>
      have hm := look_inv (o := look tAtomics (get x 27 5 : Nat)) (by omega) tAtomics _ rfl
      have hg : f3 x = 2 ∨ f3 x = 3 := by omega
      split at h
      · next e2 =>
        have e27 : get x 27 5 = 2 := by rw [e2] at hm; simp [tAtomics] at hm; omega
        split at h
        · exact absurd h.symm ho
        · next e3 =>
          rcases hg with hg | hg
          · rw [if_neg (by omega)] at h; subst h; exact hasL hM (f3_nat hg rfl) e27 (by omega)
          · rw [if_pos hg] at h; subst h; exact hasL hM (f3_nat hg rfl) e27 (by omega)
      · next e2 =>
        generalize look tAtomics (get x 27 5 : Nat) = op at *
        have hT : ∀ p ∈ tAtomics, p.2 ≠ 76 → 0 ≤ p.1 ∧ fldsOf p.2 = fA 2 p.1.toNat ∧ fldsOf (p.2 + 11) = fA 3 p.1.toNat := by decide
        obtain ⟨h1, h2, h3⟩ := hT _ hm e2
        rcases hg with hg | hg
        · rw [if_neg (by omega)] at h; subst h; rw [h2]; exact hasA hM (f3_nat hg rfl) (by simp only; omega)
        · rw [if_pos hg] at h; subst h; rw [h3]; exact hasA hM (f3_nat hg rfl) (by simp only; omega)
  have n47 := hM
  clear hM
  rw [mean, if_neg n55, if_neg n23, if_neg n111, if_neg n103, if_neg n99, if_neg n3, if_neg n35, if_neg n19, if_neg n27, if_neg n51, if_neg n59, if_neg n15, if_neg n115, if_neg n47] at h
  exact absurd h.symm ho

/-! ### The bits say the op -/
theorem has_get {L : Flds} {x : Nat} (h : Has L x) {l m c : Nat} (hq : (l, m, c) ∈ L) : get x l m = c := h (l, m, c) hq
theorem mean_103 {x : Nat} (h : get x 0 7 = 103) : mean x = (look tIndirect (f3 x), src x (immV x 1)) := by simp [mean, h]
theorem mean_99 {x : Nat} (h : get x 0 7 = 99) : mean x = (look tBranches (f3 x), par x (immV x 3)) := by simp [mean, h]
theorem mean_3 {x : Nat} (h : get x 0 7 = 3) : mean x = (look tLoads (f3 x), src x (immV x 1)) := by simp [mean, h]
theorem mean_35 {x : Nat} (h : get x 0 7 = 35) : mean x = (look tStores (f3 x), par x (immV x 2)) := by simp [mean, h]
theorem mean_19 {x : Nat} (h : get x 0 7 = 19) : mean x = withN x (f3 x) := by simp [mean, h]
theorem mean_27 {x : Nat} (h : get x 0 7 = 27) : mean x = withN32 x (f3 x) (f7 x) := by simp [mean, h]
theorem mean_51 {x : Nat} (h : get x 0 7 = 51) : mean x = (look (tRegs (f7 x)) (f3 x), thr x) := by simp [mean, h]
theorem mean_59 {x : Nat} (h : get x 0 7 = 59) : mean x = (look (tRegs32 (f7 x)) (f3 x), thr x) := by simp [mean, h]
theorem mean_15 {x : Nat} (h : get x 0 7 = 15) : mean x = (look tFences (f3 x), bar) := by simp [mean, h]
theorem mean_115 {x : Nat} (h : get x 0 7 = 115) : mean x = sysV x (f3 x) (f7 x) := by simp [mean, h]
theorem mean_47 {x : Nat} (h : get x 0 7 = 47) : mean x = atoV x (f3 x) := by simp [mean, h]
theorem f3_of {x n : Nat} (h : get x 12 3 = n) : f3 x = n := by rw [f3, h]
theorem f7_of {x n : Nat} (h : get x 25 7 = n) : f7 x = n := by rw [f7, h]
theorem range_split (o : Int) (ho : 1 ≤ o ∧ o ≤ 97) : ∃ n : Nat, n ∈ List.range 98 ∧ n ≠ 0 ∧ o = n := ⟨o.toNat, by simp; omega, by omega, by omega⟩
theorem hI {x m g : Nat} (h : Has (fI m g) x) : get x 0 7 = m ∧ f3 x = g := ⟨has_get h (c := m) (by simp [fI]), f3_of (has_get h (c := g) (by simp [fI]))⟩
theorem hR {x m g s : Nat} (h : Has (fR m g s) x) : get x 0 7 = m ∧ f3 x = g ∧ f7 x = s := ⟨has_get h (c := m) (by simp [fR]), f3_of (has_get h (c := g) (by simp [fR])), f7_of (has_get h (c := s) (by simp [fR]))⟩
theorem hS {x m g s : Nat} (h : Has (fS m g s) x) : get x 0 7 = m ∧ f3 x = g ∧ get x 26 6 = s := ⟨has_get h (c := m) (by simp [fS]), f3_of (has_get h (c := g) (by simp [fS])), has_get h (c := s) (by simp [fS])⟩
theorem hA {x g s : Nat} (h : Has (fA g s) x) : get x 0 7 = 47 ∧ f3 x = g ∧ get x 27 5 = s := ⟨has_get h (c := 47) (by simp [fA]), f3_of (has_get h (c := g) (by simp [fA])), has_get h (c := s) (by simp [fA])⟩
theorem hL' {x g : Nat} (h : Has (fL g) x) : get x 0 7 = 47 ∧ f3 x = g ∧ get x 27 5 = 2 ∧ get x 20 5 = 0 := ⟨has_get h (c := 47) (by simp [fL]), f3_of (has_get h (c := g) (by simp [fL])), has_get h (c := 2) (by simp [fL]), has_get h (c := 0) (by simp [fL])⟩
theorem opI (T : Rws) {x : Nat} {M : Nat} {o : Int} {q : Parts} (hm : get x 0 7 = M → mean x = (look T (f3 x), q)) {g : Nat} (h : Has (fI M g) x) (e : look T g = o) : (mean x).1 = o := by
  obtain ⟨h1, h2⟩ := hI h
  rw [hm h1, h2]; exact e
theorem op19 {x g : Nat} {o : Int} (h : Has (fI 19 g) x) (hg : ¬ ((g : Int) = 1 ∨ (g : Int) = 5)) (e : look tPlain g = o) : (mean x).1 = o := by
  obtain ⟨h1, h2⟩ := hI h
  rw [mean_19 h1, h2, withN, if_neg hg]; exact e
theorem op19s {x g s : Nat} {o : Int} (h : Has (fS 19 g s) x) (hg : (g : Int) = 1 ∨ (g : Int) = 5) (e : look (tShifts s) g = o) : (mean x).1 = o := by
  obtain ⟨h1, h2, h3⟩ := hS h
  rw [mean_19 h1, h2, withN, if_pos hg, h3]; exact e
theorem op27 {x : Nat} (h : Has (fI 27 0) x) : (mean x).1 = 41 := by
  obtain ⟨h1, h2⟩ := hI h
  rw [mean_27 h1, h2, withN32]; simp
theorem op27s {x g s : Nat} {o : Int} (h : Has (fR 27 g s) x) (hg : (g : Int) ≠ 0) (e : look (tShifts32 s) g = o) : (mean x).1 = o := by
  obtain ⟨h1, h2, h3⟩ := hR h
  rw [mean_27 h1, h2, h3, withN32, if_neg hg]; exact e
theorem op51 {x g s : Nat} {o : Int} (h : Has (fR 51 g s) x) (e : look (tRegs s) g = o) : (mean x).1 = o := by
  obtain ⟨h1, h2, h3⟩ := hR h
  rw [mean_51 h1, h2, h3]; exact e
theorem op59 {x g s : Nat} {o : Int} (h : Has (fR 59 g s) x) (e : look (tRegs32 s) g = o) : (mean x).1 = o := by
  obtain ⟨h1, h2, h3⟩ := hR h
  rw [mean_59 h1, h2, h3]; exact e
theorem op115 {x g : Nat} {o : Int} (h : Has (fI 115 g) x) (hg : (g : Int) ≠ 0) (e : look tCsrs g = o) : (mean x).1 = o := by
  obtain ⟨h1, h2⟩ := hI h
  rw [mean_115 h1, h2, sysV, if_pos hg]; exact e
theorem opW {x v : Nat} {o : Int} (hx : x < 4294967296) (h : Has (fW v) x) (hv : get v 0 7 = 115 ∧ f3 v = 0 ∧ f7 v ≠ 9) (e : look tWholes v = o) : (mean x).1 = o := by
  have hh := has_get h (l := 0) (m := 32) (c := v) (by simp [fW])
  rw [get_whole x hx] at hh
  subst hh
  rw [mean_115 hv.1, sysV, if_neg (by rw [hv.2.1]; omega), if_neg (fun k => hv.2.2 k.1)]; exact e
theorem op69 {x : Nat} (h : Has [(0, 7, 115), (12, 3, 0), (25, 7, 9), (7, 5, 0)] x) : (mean x).1 = 69 := by
  have h1 := has_get h (l := 0) (m := 7) (c := 115) (by simp)
  have h2 := f3_of (has_get h (l := 12) (m := 3) (c := 0) (by simp))
  have h3 := f7_of (has_get h (l := 25) (m := 7) (c := 9) (by simp))
  have h4 := has_get h (l := 7) (m := 5) (c := 0) (by simp)
  rw [mean_115 h1, h2, h3, sysV, if_neg (by simp), if_pos ⟨rfl, h4⟩]
theorem opA {x g s : Nat} {o : Int} (h : Has (fA g s) x) (hg : (g : Int) = 2 ∨ (g : Int) = 3) (h0 : look tAtomics s ≠ 0) (h1 : look tAtomics s ≠ 76) (e : (if (g : Int) = 3 then look tAtomics s + 11 else look tAtomics s) = o) : (mean x).1 = o := by
  obtain ⟨k1, k2, k3⟩ := hA h
  rw [mean_47 k1, k2, atoV, k3]
  rw [if_neg (by omega), if_neg h1]; exact e
theorem opL {x g : Nat} {o : Int} (h : Has (fL g) x) (hg : (g : Int) = 2 ∨ (g : Int) = 3) (e : (if (g : Int) = 3 then (87 : Int) else 76) = o) : (mean x).1 = o := by
  obtain ⟨k1, k2, k3, k4⟩ := hL' h
  rw [mean_47 k1, k2, atoV, k3, show look tAtomics ((2 : Nat) : Int) = 76 from rfl]
  rw [if_neg (by omega), if_pos rfl, if_neg (by omega)]; exact e
set_option maxHeartbeats 1000000 in
theorem has_mean (x : Nat) (hx : x < 4294967296) (o : Int) (ho : 1 ≤ o ∧ o ≤ 97) (h : Has (fldsOf o) x) : (mean x).1 = o := by
  rcases (show (1 ≤ o ∧ o ≤ 4) ∨ (5 ≤ o ∧ o ≤ 10) ∨ (11 ≤ o ∧ o ≤ 17) ∨ (18 ≤ o ∧ o ≤ 21) ∨ (22 ≤ o ∧ o ≤ 30) ∨ (31 ≤ o ∧ o ≤ 40) ∨ (41 ≤ o ∧ o ≤ 49) ∨ (50 ≤ o ∧ o ≤ 57) ∨ (58 ≤ o ∧ o ≤ 62) ∨ (63 ≤ o ∧ o ≤ 69) ∨ (70 ≤ o ∧ o ≤ 75) ∨ (76 ≤ o ∧ o ≤ 86) ∨ (87 ≤ o ∧ o ≤ 97) by omega) with hr | hr | hr | hr | hr | hr | hr | hr | hr | hr | hr | hr | hr
  · rcases (show o = 1 ∨ o = 2 ∨ o = 3 ∨ o = 4 by omega) with rfl | rfl | rfl | rfl
    · have h1 : get x 0 7 = 55 := has_get (L := [(0, 7, 55)]) h (by simp); simp [mean, h1]
    · have h1 : get x 0 7 = 23 := has_get (L := [(0, 7, 23)]) h (by simp); simp [mean, h1]
    · have h1 : get x 0 7 = 111 := has_get (L := [(0, 7, 111)]) h (by simp); simp [mean, h1]
    · exact opI tIndirect (M := 103) mean_103 h (by decide)
  · rcases (show o = 5 ∨ o = 6 ∨ o = 7 ∨ o = 8 ∨ o = 9 ∨ o = 10 by omega) with rfl | rfl | rfl | rfl | rfl | rfl
    · exact opI tBranches (M := 99) mean_99 h (by decide)
    · exact opI tBranches (M := 99) mean_99 h (by decide)
    · exact opI tBranches (M := 99) mean_99 h (by decide)
    · exact opI tBranches (M := 99) mean_99 h (by decide)
    · exact opI tBranches (M := 99) mean_99 h (by decide)
    · exact opI tBranches (M := 99) mean_99 h (by decide)
  · rcases (show o = 11 ∨ o = 12 ∨ o = 13 ∨ o = 14 ∨ o = 15 ∨ o = 16 ∨ o = 17 by omega) with rfl | rfl | rfl | rfl | rfl | rfl | rfl
    · exact opI tLoads (M := 3) mean_3 h (by decide)
    · exact opI tLoads (M := 3) mean_3 h (by decide)
    · exact opI tLoads (M := 3) mean_3 h (by decide)
    · exact opI tLoads (M := 3) mean_3 h (by decide)
    · exact opI tLoads (M := 3) mean_3 h (by decide)
    · exact opI tLoads (M := 3) mean_3 h (by decide)
    · exact opI tLoads (M := 3) mean_3 h (by decide)
  · rcases (show o = 18 ∨ o = 19 ∨ o = 20 ∨ o = 21 by omega) with rfl | rfl | rfl | rfl
    · exact opI tStores (M := 35) mean_35 h (by decide)
    · exact opI tStores (M := 35) mean_35 h (by decide)
    · exact opI tStores (M := 35) mean_35 h (by decide)
    · exact opI tStores (M := 35) mean_35 h (by decide)
  · rcases (show o = 22 ∨ o = 23 ∨ o = 24 ∨ o = 25 ∨ o = 26 ∨ o = 27 ∨ o = 28 ∨ o = 29 ∨ o = 30 by omega) with rfl | rfl | rfl | rfl | rfl | rfl | rfl | rfl | rfl
    · exact op19 h (by decide) (by decide)
    · exact op19 h (by decide) (by decide)
    · exact op19 h (by decide) (by decide)
    · exact op19 h (by decide) (by decide)
    · exact op19 h (by decide) (by decide)
    · exact op19 h (by decide) (by decide)
    · exact op19s h (by decide) (by decide)
    · exact op19s h (by decide) (by decide)
    · exact op19s h (by decide) (by decide)
  · rcases (show o = 31 ∨ o = 32 ∨ o = 33 ∨ o = 34 ∨ o = 35 ∨ o = 36 ∨ o = 37 ∨ o = 38 ∨ o = 39 ∨ o = 40 by omega) with rfl | rfl | rfl | rfl | rfl | rfl | rfl | rfl | rfl | rfl
    · exact op51 h (by decide)
    · exact op51 h (by decide)
    · exact op51 h (by decide)
    · exact op51 h (by decide)
    · exact op51 h (by decide)
    · exact op51 h (by decide)
    · exact op51 h (by decide)
    · exact op51 h (by decide)
    · exact op51 h (by decide)
    · exact op51 h (by decide)
  · rcases (show o = 41 ∨ o = 42 ∨ o = 43 ∨ o = 44 ∨ o = 45 ∨ o = 46 ∨ o = 47 ∨ o = 48 ∨ o = 49 by omega) with rfl | rfl | rfl | rfl | rfl | rfl | rfl | rfl | rfl
    · exact op27 h
    · exact op27s h (by decide) (by decide)
    · exact op27s h (by decide) (by decide)
    · exact op27s h (by decide) (by decide)
    · exact op59 h (by decide)
    · exact op59 h (by decide)
    · exact op59 h (by decide)
    · exact op59 h (by decide)
    · exact op59 h (by decide)
  · rcases (show o = 50 ∨ o = 51 ∨ o = 52 ∨ o = 53 ∨ o = 54 ∨ o = 55 ∨ o = 56 ∨ o = 57 by omega) with rfl | rfl | rfl | rfl | rfl | rfl | rfl | rfl
    · exact op51 h (by decide)
    · exact op51 h (by decide)
    · exact op51 h (by decide)
    · exact op51 h (by decide)
    · exact op51 h (by decide)
    · exact op51 h (by decide)
    · exact op51 h (by decide)
    · exact op51 h (by decide)
  · rcases (show o = 58 ∨ o = 59 ∨ o = 60 ∨ o = 61 ∨ o = 62 by omega) with rfl | rfl | rfl | rfl | rfl
    · exact op59 h (by decide)
    · exact op59 h (by decide)
    · exact op59 h (by decide)
    · exact op59 h (by decide)
    · exact op59 h (by decide)
  · rcases (show o = 63 ∨ o = 64 ∨ o = 65 ∨ o = 66 ∨ o = 67 ∨ o = 68 ∨ o = 69 by omega) with rfl | rfl | rfl | rfl | rfl | rfl | rfl
    · exact opI tFences (M := 15) mean_15 h (by decide)
    · exact opI tFences (M := 15) mean_15 h (by decide)
    · exact opW hx h (by decide) (by decide)
    · exact opW hx h (by decide) (by decide)
    · exact opW hx h (by decide) (by decide)
    · exact opW hx h (by decide) (by decide)
    · exact op69 h
  · rcases (show o = 70 ∨ o = 71 ∨ o = 72 ∨ o = 73 ∨ o = 74 ∨ o = 75 by omega) with rfl | rfl | rfl | rfl | rfl | rfl
    · exact op115 h (by decide) (by decide)
    · exact op115 h (by decide) (by decide)
    · exact op115 h (by decide) (by decide)
    · exact op115 h (by decide) (by decide)
    · exact op115 h (by decide) (by decide)
    · exact op115 h (by decide) (by decide)
  · rcases (show o = 76 ∨ o = 77 ∨ o = 78 ∨ o = 79 ∨ o = 80 ∨ o = 81 ∨ o = 82 ∨ o = 83 ∨ o = 84 ∨ o = 85 ∨ o = 86 by omega) with rfl | rfl | rfl | rfl | rfl | rfl | rfl | rfl | rfl | rfl | rfl
    · exact opL h (by decide) (by decide)
    · exact opA h (by decide) (by decide) (by decide) (by decide)
    · exact opA h (by decide) (by decide) (by decide) (by decide)
    · exact opA h (by decide) (by decide) (by decide) (by decide)
    · exact opA h (by decide) (by decide) (by decide) (by decide)
    · exact opA h (by decide) (by decide) (by decide) (by decide)
    · exact opA h (by decide) (by decide) (by decide) (by decide)
    · exact opA h (by decide) (by decide) (by decide) (by decide)
    · exact opA h (by decide) (by decide) (by decide) (by decide)
    · exact opA h (by decide) (by decide) (by decide) (by decide)
    · exact opA h (by decide) (by decide) (by decide) (by decide)
  · rcases (show o = 87 ∨ o = 88 ∨ o = 89 ∨ o = 90 ∨ o = 91 ∨ o = 92 ∨ o = 93 ∨ o = 94 ∨ o = 95 ∨ o = 96 ∨ o = 97 by omega) with rfl | rfl | rfl | rfl | rfl | rfl | rfl | rfl | rfl | rfl | rfl
    · exact opL h (by decide) (by decide)
    · exact opA h (by decide) (by decide) (by decide) (by decide)
    · exact opA h (by decide) (by decide) (by decide) (by decide)
    · exact opA h (by decide) (by decide) (by decide) (by decide)
    · exact opA h (by decide) (by decide) (by decide) (by decide)
    · exact opA h (by decide) (by decide) (by decide) (by decide)
    · exact opA h (by decide) (by decide) (by decide) (by decide)
    · exact opA h (by decide) (by decide) (by decide) (by decide)
    · exact opA h (by decide) (by decide) (by decide) (by decide)
    · exact opA h (by decide) (by decide) (by decide) (by decide)
    · exact opA h (by decide) (by decide) (by decide) (by decide)
/-- A word is of an op just if it has its bits. -/
theorem word_op (x : Nat) (hx : x < 4294967296) (o : Int) (ho : 1 ≤ o ∧ o ≤ 97) : (wordV x).1 = o ↔ Has (fldsOf o) x := by
  constructor
  · intro h
    refine mean_has x hx o (by omega) ?_
    unfold wordV at h
    split at h
    · simp at h; omega
    · exact h
  · intro h
    have := has_mean x hx o ho h
    unfold wordV
    rw [if_neg (by omega)]; exact this
end Go.Proofs.YtpbeamnogfjagaaGreatDoor.D
end

section
namespace Go.Proofs.YtpbeamnogfjagaaGreatDoor.D
open Go Go.RowKit F
set_option linter.unusedVariables false

theorem get_or (a b l m : Nat) : get (a ||| b) l m = get a l m ||| get b l m := by
  apply Nat.eq_of_testBit_eq
  intro i
  simp only [get_bit, Nat.testBit_or]
  cases decide (i < m) <;> simp
theorem get_zero (l m : Nat) : get 0 l m = 0 := by simp [F.get]
theorem get_shl_at (a k m : Nat) (h : a < 2 ^ m) : get (a <<< k) k m = a := by
  rw [F.get, Nat.shiftLeft_shiftRight, Nat.mod_eq_of_lt h]
theorem get_shl_off (a k j l m : Nat) (h : a < 2 ^ j) (hd : k + j ≤ l ∨ l + m ≤ k) : get (a <<< k) l m = 0 := by
  apply Nat.eq_of_testBit_eq
  intro i
  rw [get_bit, Nat.testBit_shiftLeft, Nat.zero_testBit]
  by_cases hi : i < m
  · by_cases hk : k ≤ l + i
    · have : a.testBit (l + i - k) = false := Nat.testBit_lt_two_pow (Nat.lt_of_lt_of_le h (Nat.pow_le_pow_right (by omega) (by omega)))
      simp [this]
    · simp [show ¬ (l + i ≥ k) from hk]
  · simp [hi]
theorem get_shl_in (a k j l m : Nat) (hk : k ≤ l) (hl : l + m ≤ k + j) : get (a <<< k) l m = get a (l - k) m := by
  apply Nat.eq_of_testBit_eq
  intro i
  rw [get_bit, get_bit, Nat.testBit_shiftLeft]
  by_cases hi : i < m
  · simp [hi, show k ≤ l + i by omega, show l + i - k = l - k + i by omega]
  · simp [hi]
/-- Bits that a format does not have. -/
def offB (f : Int) (l m : Nat) : Bool := (List.range m).all fun i => (inv f (l + i)).isEmpty
theorem get_word_off (n f : Int) (l m : Nat) (hd : offB f l m = true) : get (F.wordV n f) l m = 0 := by
  apply Nat.eq_of_testBit_eq
  intro i
  rw [get_bit, Nat.zero_testBit, wordV_bit]
  by_cases hi : i < m
  · have := List.all_eq_true.1 hd i (by simp [hi])
    rw [List.isEmpty_iff] at this
    rw [this]; simp
  · simp [hi]
theorem get_lay_off (n f : Int) (l m : Nat) (hd : offB f l m = true) : get (layV n f) l m = 0 := by
  unfold layV
  split
  · exact get_word_off n f l m hd
  · exact get_zero l m

/-- Where two ranges of bits do not meet. -/
def apart (q : Nat × Nat × Nat) (k j : Nat) : Bool := decide (k + j ≤ q.1) || decide (q.1 + q.2.1 ≤ k)
theorem apart_or {q : Nat × Nat × Nat} {k j : Nat} (h : apart q k j = true) : k + j ≤ q.1 ∨ q.1 + q.2.1 ≤ k := by
  simpa [apart] using h
/-- All bits of an op lie apart from these. -/
def clear (o : Int) (k j : Nat) : Bool := (fldsOf o).all fun q => apart q k j
theorem bases_ok : ((List.range 98).all fun (n : Nat) => (fldsOf n).all fun q => get (baseV n) q.1 q.2.1 == q.2.2) = true := by decide +kernel
theorem base_has (o : Int) (ho : 0 ≤ o ∧ o ≤ 97) : Has (fldsOf o) (baseV o) := by
  intro q hq
  obtain ⟨n, rfl⟩ : ∃ n : Nat, o = n := ⟨o.toNat, by omega⟩
  have := List.all_eq_true.1 (List.all_eq_true.1 bases_ok n (by simp; omega)) q hq
  simpa using this
theorem bases_lt : ((List.range 98).all fun (n : Nat) => decide (baseV n < 4294967296)) = true := by decide +kernel
theorem base_lt (o : Int) : baseV o < 4294967296 := by
  by_cases ho : 0 ≤ o ∧ o ≤ 97
  · obtain ⟨n, rfl⟩ : ∃ n : Nat, o = n := ⟨o.toNat, by omega⟩
    exact of_decide_eq_true (List.all_eq_true.1 bases_lt n (by simp; omega))
  · by_cases h0 : o < 0
    · have : o.toNat = 0 := by omega
      simp [baseV, fldsOf, this, fldL, baseOf]
    · have : 98 ≤ o.toNat := by omega
      have e : fldsOf o = [] := by rw [fldsOf, List.getD_eq_getElem?_getD, List.getElem?_eq_none (by simpa [fldL] using this)]; rfl
      simp [baseV, e, baseOf]
/-- A word put together: of an op's bits, three registers, and the bits of a number. -/
def put (B a b c N : Nat) : Nat := B ||| a <<< 7 ||| b <<< 15 ||| c <<< 20 ||| N
theorem put_get (B a b c N l m : Nat) : get (put B a b c N) l m = get B l m ||| get (a <<< 7) l m ||| get (b <<< 15) l m ||| get (c <<< 20) l m ||| get N l m := by
  simp only [put, get_or]
theorem shl_lt {a k : Nat} (ha : a < 32) (hk : k ≤ 20) : a <<< k < 4294967296 := by
  rw [Nat.shiftLeft_eq]
  have h1 : a * 2 ^ k ≤ 31 * 2 ^ k := Nat.mul_le_mul_right _ (by omega)
  have h2 : (2 : Nat) ^ k ≤ 2 ^ 20 := Nat.pow_le_pow_right (by omega) hk
  omega
theorem or_lt32 {a b : Nat} (ha : a < 4294967296) (hb : b < 4294967296) : a ||| b < 4294967296 := Nat.or_lt_two_pow (n := 32) ha hb
theorem put_lt {B a b c N : Nat} (hB : B < 4294967296) (ha : a < 32) (hb : b < 32) (hc : c < 32) (hN : N < 4294967296) : put B a b c N < 4294967296 := by
  unfold put
  exact or_lt32 (or_lt32 (or_lt32 (or_lt32 hB (shl_lt ha (by omega))) (shl_lt hb (by omega))) (shl_lt hc (by omega))) hN
/-- A register's place is free of the op's bits, or there is none. -/
def Free (o : Int) (a k : Nat) : Prop := a < 32 ∧ (a = 0 ∨ clear o k 5 = true)
theorem Free.off {o : Int} {a k : Nat} (h : Free o a k) {q : Nat × Nat × Nat} (hq : q ∈ fldsOf o) : get (a <<< k) q.1 q.2.1 = 0 := by
  rcases h.2 with rfl | hc
  · simp [get_zero]
  · exact get_shl_off a k 5 _ _ h.1 (apart_or (List.all_eq_true.1 hc q hq))
theorem put_has (o : Int) (ho : 1 ≤ o ∧ o ≤ 97) {a b c N : Nat} (ha : Free o a 7) (hb : Free o b 15) (hc : Free o c 20) (hN : ∀ q ∈ fldsOf o, get N q.1 q.2.1 = 0) : Has (fldsOf o) (put (baseV o) a b c N) := by
  intro q hq
  rw [put_get, base_has o (by omega) q hq, ha.off hq, hb.off hq, hc.off hq, hN q hq]
  simp
theorem put_op (o : Int) (ho : 1 ≤ o ∧ o ≤ 97) {a b c N : Nat} (ha : Free o a 7) (hb : Free o b 15) (hc : Free o c 20) (hNl : N < 4294967296) (hN : ∀ q ∈ fldsOf o, get N q.1 q.2.1 = 0) :
    put (baseV o) a b c N < 4294967296 ∧ D.wordV (put (baseV o) a b c N) = (o, shape o (put (baseV o) a b c N)) := by
  have hl := put_lt (base_lt o) ha.1 hb.1 hc.1 hNl
  have h1 := (word_op _ hl o ho).2 (put_has o ho ha hb hc hN)
  refine ⟨hl, ?_⟩
  have h2 := (word_shape (put (baseV o) a b c N)).2.2
  rw [h1] at h2
  exact h2

/-! ### What an instruction can be -/
def lim (o rd rs1 rs2 im : Int) : Prop :=
  if o ≤ 0 then rd = 0 ∧ rs1 = 0 ∧ rs2 = 0 ∧ im = 0
  else if o ≤ 2 then rs1 = 0 ∧ rs2 = 0 ∧ -2147483648 ≤ im ∧ im < 2147483648 ∧ im % 4096 = 0
  else if o ≤ 3 then rs1 = 0 ∧ rs2 = 0 ∧ -1048576 ≤ im ∧ im < 1048576 ∧ im % 2 = 0
  else if o ≤ 4 then rs2 = 0 ∧ -2048 ≤ im ∧ im < 2048
  else if o ≤ 10 then rd = 0 ∧ -4096 ≤ im ∧ im < 4096 ∧ im % 2 = 0
  else if o ≤ 17 then rs2 = 0 ∧ -2048 ≤ im ∧ im < 2048
  else if o ≤ 21 then rd = 0 ∧ -2048 ≤ im ∧ im < 2048
  else if o ≤ 27 then rs2 = 0 ∧ -2048 ≤ im ∧ im < 2048
  else if o ≤ 30 then rs2 = 0 ∧ 0 ≤ im ∧ im < 64
  else if o ≤ 40 then im = 0
  else if o ≤ 41 then rs2 = 0 ∧ -2048 ≤ im ∧ im < 2048
  else if o ≤ 44 then rs2 = 0 ∧ 0 ≤ im ∧ im < 32
  else if o ≤ 62 then im = 0
  else if o ≤ 68 then rd = 0 ∧ rs1 = 0 ∧ rs2 = 0 ∧ im = 0
  else if o ≤ 69 then rd = 0 ∧ im = 0
  else if o ≤ 75 then rs2 = 0 ∧ 0 ≤ im ∧ im < 4096
  else if o ≤ 76 then rs2 = 0 ∧ im = 0
  else if o ≤ 86 then im = 0
  else if o ≤ 87 then rs2 = 0 ∧ im = 0
  else im = 0
/-- An instruction, of 4 bytes, that a word can say. -/
def Can (o : Int) (p : Parts) : Prop :=
  (0 ≤ o ∧ o ≤ 97) ∧ (0 ≤ p.1 ∧ p.1 ≤ 31) ∧ (0 ≤ p.2.1 ∧ p.2.1 ≤ 31) ∧ (0 ≤ p.2.2.1 ∧ p.2.2.1 ≤ 31) ∧ lim o p.1 p.2.1 p.2.2.1 p.2.2.2
theorem z31 : (0 : Int) ≤ 0 ∧ (0 : Int) ≤ 31 := by decide
theorem get5 (x l : Nat) : (0 : Int) ≤ ((get x l 5 : Nat) : Int) ∧ ((get x l 5 : Nat) : Int) ≤ 31 := by
  have := get_lt x l 5
  omega
theorem im1 (x : Nat) : -2048 ≤ immV x 1 ∧ immV x 1 < 2048 := by
  have h := imm_in x 1 (by omega)
  rw [bts_eq.1] at h; exact ⟨by have := h.1; omega, by have := h.2.1; omega⟩
theorem im2 (x : Nat) : -2048 ≤ immV x 2 ∧ immV x 2 < 2048 := by
  have h := imm_in x 2 (by omega)
  rw [bts_eq.2.1] at h; exact ⟨by have := h.1; omega, by have := h.2.1; omega⟩
theorem im3 (x : Nat) : -4096 ≤ immV x 3 ∧ immV x 3 < 4096 ∧ immV x 3 % 2 = 0 := by
  have h := imm_in x 3 (by omega)
  rw [bts_eq.2.2.1, show zer 3 = 1 from rfl] at h; exact ⟨by have := h.1; omega, by have := h.2.1; omega, by have := h.2.2; omega⟩
theorem im4 (x : Nat) : -2147483648 ≤ immV x 4 ∧ immV x 4 < 2147483648 ∧ immV x 4 % 4096 = 0 := by
  have h := imm_in x 4 (by omega)
  rw [bts_eq.2.2.2.1, show zer 4 = 12 from rfl] at h; exact ⟨by have := h.1; omega, by have := h.2.1; omega, by have := h.2.2; omega⟩
theorem im5 (x : Nat) : -1048576 ≤ immV x 5 ∧ immV x 5 < 1048576 ∧ immV x 5 % 2 = 0 := by
  have h := imm_in x 5 (by omega)
  rw [bts_eq.2.2.2.2, show zer 5 = 1 from rfl] at h; exact ⟨by have := h.1; omega, by have := h.2.1; omega, by have := h.2.2; omega⟩
theorem get6 (x l : Nat) : (0 : Int) ≤ ((get x l 6 : Nat) : Int) ∧ ((get x l 6 : Nat) : Int) < 64 := by
  have := get_lt x l 6
  omega
theorem get12 (x l : Nat) : (0 : Int) ≤ ((get x l 12 : Nat) : Int) ∧ ((get x l 12 : Nat) : Int) < 4096 := by
  have := get_lt x l 12
  omega
theorem get5' (x l : Nat) : (0 : Int) ≤ ((get x l 5 : Nat) : Int) ∧ ((get x l 5 : Nat) : Int) < 32 := by
  have := get_lt x l 5
  omega
theorem lim0 (o rd rs1 rs2 im : Int) (h : o ≤ 0) : lim o rd rs1 rs2 im = (rd = 0 ∧ rs1 = 0 ∧ rs2 = 0 ∧ im = 0) := by
  unfold lim; rw [if_pos (by omega)]
theorem lim1 (o rd rs1 rs2 im : Int) (h : 1 ≤ o ∧ o ≤ 2) : lim o rd rs1 rs2 im = (rs1 = 0 ∧ rs2 = 0 ∧ -2147483648 ≤ im ∧ im < 2147483648 ∧ im % 4096 = 0) := by
  unfold lim; rw [if_neg (by omega), if_pos (by omega)]
theorem lim2 (o rd rs1 rs2 im : Int) (h : 3 ≤ o ∧ o ≤ 3) : lim o rd rs1 rs2 im = (rs1 = 0 ∧ rs2 = 0 ∧ -1048576 ≤ im ∧ im < 1048576 ∧ im % 2 = 0) := by
  unfold lim; rw [if_neg (by omega), if_neg (by omega), if_pos (by omega)]
theorem lim3 (o rd rs1 rs2 im : Int) (h : 4 ≤ o ∧ o ≤ 4) : lim o rd rs1 rs2 im = (rs2 = 0 ∧ -2048 ≤ im ∧ im < 2048) := by
  unfold lim; rw [if_neg (by omega), if_neg (by omega), if_neg (by omega), if_pos (by omega)]
theorem lim4 (o rd rs1 rs2 im : Int) (h : 5 ≤ o ∧ o ≤ 10) : lim o rd rs1 rs2 im = (rd = 0 ∧ -4096 ≤ im ∧ im < 4096 ∧ im % 2 = 0) := by
  unfold lim; rw [if_neg (by omega), if_neg (by omega), if_neg (by omega), if_neg (by omega), if_pos (by omega)]
theorem lim5 (o rd rs1 rs2 im : Int) (h : 11 ≤ o ∧ o ≤ 17) : lim o rd rs1 rs2 im = (rs2 = 0 ∧ -2048 ≤ im ∧ im < 2048) := by
  unfold lim; rw [if_neg (by omega), if_neg (by omega), if_neg (by omega), if_neg (by omega), if_neg (by omega), if_pos (by omega)]
theorem lim6 (o rd rs1 rs2 im : Int) (h : 18 ≤ o ∧ o ≤ 21) : lim o rd rs1 rs2 im = (rd = 0 ∧ -2048 ≤ im ∧ im < 2048) := by
  unfold lim; rw [if_neg (by omega), if_neg (by omega), if_neg (by omega), if_neg (by omega), if_neg (by omega), if_neg (by omega), if_pos (by omega)]
theorem lim7 (o rd rs1 rs2 im : Int) (h : 22 ≤ o ∧ o ≤ 27) : lim o rd rs1 rs2 im = (rs2 = 0 ∧ -2048 ≤ im ∧ im < 2048) := by
  unfold lim; rw [if_neg (by omega), if_neg (by omega), if_neg (by omega), if_neg (by omega), if_neg (by omega), if_neg (by omega), if_neg (by omega), if_pos (by omega)]
theorem lim8 (o rd rs1 rs2 im : Int) (h : 28 ≤ o ∧ o ≤ 30) : lim o rd rs1 rs2 im = (rs2 = 0 ∧ 0 ≤ im ∧ im < 64) := by
  unfold lim; rw [if_neg (by omega), if_neg (by omega), if_neg (by omega), if_neg (by omega), if_neg (by omega), if_neg (by omega), if_neg (by omega), if_neg (by omega), if_pos (by omega)]
theorem lim9 (o rd rs1 rs2 im : Int) (h : 31 ≤ o ∧ o ≤ 40) : lim o rd rs1 rs2 im = (im = 0) := by
  unfold lim; rw [if_neg (by omega), if_neg (by omega), if_neg (by omega), if_neg (by omega), if_neg (by omega), if_neg (by omega), if_neg (by omega), if_neg (by omega), if_neg (by omega), if_pos (by omega)]
theorem lim10 (o rd rs1 rs2 im : Int) (h : 41 ≤ o ∧ o ≤ 41) : lim o rd rs1 rs2 im = (rs2 = 0 ∧ -2048 ≤ im ∧ im < 2048) := by
  unfold lim; rw [if_neg (by omega), if_neg (by omega), if_neg (by omega), if_neg (by omega), if_neg (by omega), if_neg (by omega), if_neg (by omega), if_neg (by omega), if_neg (by omega), if_neg (by omega), if_pos (by omega)]
theorem lim11 (o rd rs1 rs2 im : Int) (h : 42 ≤ o ∧ o ≤ 44) : lim o rd rs1 rs2 im = (rs2 = 0 ∧ 0 ≤ im ∧ im < 32) := by
  unfold lim; rw [if_neg (by omega), if_neg (by omega), if_neg (by omega), if_neg (by omega), if_neg (by omega), if_neg (by omega), if_neg (by omega), if_neg (by omega), if_neg (by omega), if_neg (by omega), if_neg (by omega), if_pos (by omega)]
theorem lim12 (o rd rs1 rs2 im : Int) (h : 45 ≤ o ∧ o ≤ 62) : lim o rd rs1 rs2 im = (im = 0) := by
  unfold lim; rw [if_neg (by omega), if_neg (by omega), if_neg (by omega), if_neg (by omega), if_neg (by omega), if_neg (by omega), if_neg (by omega), if_neg (by omega), if_neg (by omega), if_neg (by omega), if_neg (by omega), if_neg (by omega), if_pos (by omega)]
theorem lim13 (o rd rs1 rs2 im : Int) (h : 63 ≤ o ∧ o ≤ 68) : lim o rd rs1 rs2 im = (rd = 0 ∧ rs1 = 0 ∧ rs2 = 0 ∧ im = 0) := by
  unfold lim; rw [if_neg (by omega), if_neg (by omega), if_neg (by omega), if_neg (by omega), if_neg (by omega), if_neg (by omega), if_neg (by omega), if_neg (by omega), if_neg (by omega), if_neg (by omega), if_neg (by omega), if_neg (by omega), if_neg (by omega), if_pos (by omega)]
theorem lim14 (o rd rs1 rs2 im : Int) (h : 69 ≤ o ∧ o ≤ 69) : lim o rd rs1 rs2 im = (rd = 0 ∧ im = 0) := by
  unfold lim; rw [if_neg (by omega), if_neg (by omega), if_neg (by omega), if_neg (by omega), if_neg (by omega), if_neg (by omega), if_neg (by omega), if_neg (by omega), if_neg (by omega), if_neg (by omega), if_neg (by omega), if_neg (by omega), if_neg (by omega), if_neg (by omega), if_pos (by omega)]
theorem lim15 (o rd rs1 rs2 im : Int) (h : 70 ≤ o ∧ o ≤ 75) : lim o rd rs1 rs2 im = (rs2 = 0 ∧ 0 ≤ im ∧ im < 4096) := by
  unfold lim; rw [if_neg (by omega), if_neg (by omega), if_neg (by omega), if_neg (by omega), if_neg (by omega), if_neg (by omega), if_neg (by omega), if_neg (by omega), if_neg (by omega), if_neg (by omega), if_neg (by omega), if_neg (by omega), if_neg (by omega), if_neg (by omega), if_neg (by omega), if_pos (by omega)]
theorem lim16 (o rd rs1 rs2 im : Int) (h : 76 ≤ o ∧ o ≤ 76) : lim o rd rs1 rs2 im = (rs2 = 0 ∧ im = 0) := by
  unfold lim; rw [if_neg (by omega), if_neg (by omega), if_neg (by omega), if_neg (by omega), if_neg (by omega), if_neg (by omega), if_neg (by omega), if_neg (by omega), if_neg (by omega), if_neg (by omega), if_neg (by omega), if_neg (by omega), if_neg (by omega), if_neg (by omega), if_neg (by omega), if_neg (by omega), if_pos (by omega)]
theorem lim17 (o rd rs1 rs2 im : Int) (h : 77 ≤ o ∧ o ≤ 86) : lim o rd rs1 rs2 im = (im = 0) := by
  unfold lim; rw [if_neg (by omega), if_neg (by omega), if_neg (by omega), if_neg (by omega), if_neg (by omega), if_neg (by omega), if_neg (by omega), if_neg (by omega), if_neg (by omega), if_neg (by omega), if_neg (by omega), if_neg (by omega), if_neg (by omega), if_neg (by omega), if_neg (by omega), if_neg (by omega), if_neg (by omega), if_pos (by omega)]
theorem lim18 (o rd rs1 rs2 im : Int) (h : 87 ≤ o ∧ o ≤ 87) : lim o rd rs1 rs2 im = (rs2 = 0 ∧ im = 0) := by
  unfold lim; rw [if_neg (by omega), if_neg (by omega), if_neg (by omega), if_neg (by omega), if_neg (by omega), if_neg (by omega), if_neg (by omega), if_neg (by omega), if_neg (by omega), if_neg (by omega), if_neg (by omega), if_neg (by omega), if_neg (by omega), if_neg (by omega), if_neg (by omega), if_neg (by omega), if_neg (by omega), if_neg (by omega), if_pos (by omega)]
theorem lim19 (o rd rs1 rs2 im : Int) (h : 88 ≤ o) : lim o rd rs1 rs2 im = (im = 0) := by
  unfold lim; rw [if_neg (by omega), if_neg (by omega), if_neg (by omega), if_neg (by omega), if_neg (by omega), if_neg (by omega), if_neg (by omega), if_neg (by omega), if_neg (by omega), if_neg (by omega), if_neg (by omega), if_neg (by omega), if_neg (by omega), if_neg (by omega), if_neg (by omega), if_neg (by omega), if_neg (by omega), if_neg (by omega), if_neg (by omega)]
/-- The instruction of any word is one that a word can say. -/
theorem shape_can (o : Int) (x : Nat) (ho : 0 ≤ o ∧ o ≤ 97) : Can o (shape o x) := by
  rcases (show o ≤ 0 ∨ (1 ≤ o ∧ o ≤ 2) ∨ (3 ≤ o ∧ o ≤ 3) ∨ (4 ≤ o ∧ o ≤ 4) ∨ (5 ≤ o ∧ o ≤ 10) ∨ (11 ≤ o ∧ o ≤ 17) ∨ (18 ≤ o ∧ o ≤ 21) ∨ (22 ≤ o ∧ o ≤ 27) ∨ (28 ≤ o ∧ o ≤ 30) ∨ (31 ≤ o ∧ o ≤ 40) ∨ (41 ≤ o ∧ o ≤ 41) ∨ (42 ≤ o ∧ o ≤ 44) ∨ (45 ≤ o ∧ o ≤ 62) ∨ (63 ≤ o ∧ o ≤ 68) ∨ (69 ≤ o ∧ o ≤ 69) ∨ (70 ≤ o ∧ o ≤ 75) ∨ (76 ≤ o ∧ o ≤ 76) ∨ (77 ≤ o ∧ o ≤ 86) ∨ (87 ≤ o ∧ o ≤ 87) ∨ 88 ≤ o by omega) with h | h | h | h | h | h | h | h | h | h | h | h | h | h | h | h | h | h | h | h
  · rw [shape0 o x h]
    refine ⟨ho, z31, z31, z31, ?_⟩
    rw [lim0 _ _ _ _ _ h]; exact ⟨rfl, rfl, rfl, rfl⟩
  · rw [shape1 o x h]
    refine ⟨ho, get5 x 7, z31, z31, ?_⟩
    rw [lim1 _ _ _ _ _ h]; exact ⟨rfl, rfl, im4 x⟩
  · rw [shape2 o x h]
    refine ⟨ho, get5 x 7, z31, z31, ?_⟩
    rw [lim2 _ _ _ _ _ h]; exact ⟨rfl, rfl, im5 x⟩
  · rw [shape3 o x h]
    refine ⟨ho, get5 x 7, get5 x 15, z31, ?_⟩
    rw [lim3 _ _ _ _ _ h]; exact ⟨rfl, im1 x⟩
  · rw [shape4 o x h]
    refine ⟨ho, z31, get5 x 15, get5 x 20, ?_⟩
    rw [lim4 _ _ _ _ _ h]; exact ⟨rfl, im3 x⟩
  · rw [shape5 o x h]
    refine ⟨ho, get5 x 7, get5 x 15, z31, ?_⟩
    rw [lim5 _ _ _ _ _ h]; exact ⟨rfl, im1 x⟩
  · rw [shape6 o x h]
    refine ⟨ho, z31, get5 x 15, get5 x 20, ?_⟩
    rw [lim6 _ _ _ _ _ h]; exact ⟨rfl, im2 x⟩
  · rw [shape7 o x h]
    refine ⟨ho, get5 x 7, get5 x 15, z31, ?_⟩
    rw [lim7 _ _ _ _ _ h]; exact ⟨rfl, im1 x⟩
  · rw [shape8 o x h]
    refine ⟨ho, get5 x 7, get5 x 15, z31, ?_⟩
    rw [lim8 _ _ _ _ _ h]; exact ⟨rfl, get6 x 20⟩
  · rw [shape9 o x h]
    refine ⟨ho, get5 x 7, get5 x 15, get5 x 20, ?_⟩
    rw [lim9 _ _ _ _ _ h]; exact rfl
  · rw [shape10 o x h]
    refine ⟨ho, get5 x 7, get5 x 15, z31, ?_⟩
    rw [lim10 _ _ _ _ _ h]; exact ⟨rfl, im1 x⟩
  · rw [shape11 o x h]
    refine ⟨ho, get5 x 7, get5 x 15, z31, ?_⟩
    rw [lim11 _ _ _ _ _ h]; exact ⟨rfl, get5' x 20⟩
  · rw [shape12 o x h]
    refine ⟨ho, get5 x 7, get5 x 15, get5 x 20, ?_⟩
    rw [lim12 _ _ _ _ _ h]; exact rfl
  · rw [shape13 o x h]
    refine ⟨ho, z31, z31, z31, ?_⟩
    rw [lim13 _ _ _ _ _ h]; exact ⟨rfl, rfl, rfl, rfl⟩
  · rw [shape14 o x h]
    refine ⟨ho, z31, get5 x 15, get5 x 20, ?_⟩
    rw [lim14 _ _ _ _ _ h]; exact ⟨rfl, rfl⟩
  · rw [shape15 o x h]
    refine ⟨ho, get5 x 7, get5 x 15, z31, ?_⟩
    rw [lim15 _ _ _ _ _ h]; exact ⟨rfl, get12 x 20⟩
  · rw [shape16 o x h]
    refine ⟨ho, get5 x 7, get5 x 15, z31, ?_⟩
    rw [lim16 _ _ _ _ _ h]; exact ⟨rfl, rfl⟩
  · rw [shape17 o x h]
    refine ⟨ho, get5 x 7, get5 x 15, get5 x 20, ?_⟩
    rw [lim17 _ _ _ _ _ h]; exact rfl
  · rw [shape18 o x h]
    refine ⟨ho, get5 x 7, get5 x 15, z31, ?_⟩
    rw [lim18 _ _ _ _ _ h]; exact ⟨rfl, rfl⟩
  · rw [shape19 o x h]
    refine ⟨ho, get5 x 7, get5 x 15, get5 x 20, ?_⟩
    rw [lim19 _ _ _ _ _ h]; exact rfl
theorem word_can (x : Nat) : Can (D.wordV x).1 (D.wordV x).2 := by
  obtain ⟨h1, h2, h3⟩ := word_shape x
  have h4 := shape_can (D.wordV x).1 x ⟨h1, h2⟩
  rw [h3]; exact h4
end Go.Proofs.YtpbeamnogfjagaaGreatDoor.D
end

section
namespace Go.Proofs.YtpbeamnogfjagaaGreatDoor.D
open Go Go.RowKit F
set_option linter.unusedVariables false

theorem vals_ok : ((List.range 98).all fun (n : Nat) => (fldsOf n).all fun q => decide (q.2.2 < 2 ^ q.2.1)) = true := by decide +kernel
theorem vals_lt (o : Int) (ho : 0 ≤ o ∧ o ≤ 97) : ∀ q ∈ fldsOf o, q.2.2 < 2 ^ q.2.1 := by
  intro q hq
  obtain ⟨n, rfl⟩ : ∃ n : Nat, o = n := ⟨o.toNat, by omega⟩
  exact of_decide_eq_true (List.all_eq_true.1 (List.all_eq_true.1 vals_ok n (by simp; omega)) q hq)
theorem baseOf_off (k j : Nat) : ∀ L : Flds, (∀ q ∈ L, q.2.2 < 2 ^ q.2.1) → (L.all fun q => apart q k j) = true → get (baseOf L) k j = 0
  | [], _, _ => get_zero k j
  | q :: L, hv, h => by
    rw [List.all_cons, Bool.and_eq_true] at h
    rw [baseOf, get_or, baseOf_off k j L (fun q hq => hv q (by simp [hq])) h.2]
    rw [get_shl_off q.2.2 q.1 q.2.1 k j (hv q (by simp)) (by have := apart_or h.1; omega)]
    rfl
theorem base_off {o : Int} (ho : 0 ≤ o ∧ o ≤ 97) {k j : Nat} (h : clear o k j = true) : get (baseV o) k j = 0 := baseOf_off k j _ (vals_lt o ho) h
/-- All ops from a to b. -/
def rng (a b : Nat) (P : Int → Bool) : Bool := (List.range (b + 1 - a)).all fun i => P ((a + i : Nat) : Int)
theorem rng_at {a b : Nat} {P : Int → Bool} (h : rng a b P = true) (o : Int) (ho : (a : Int) ≤ o ∧ o ≤ b) : P o = true := by
  have := List.all_eq_true.1 h (o.toNat - a) (by simp; omega)
  rwa [show ((a + (o.toNat - a) : Nat) : Int) = o by omega] at this
/-- The bits of an op are none of a format's. -/
def offs (o f : Int) : Bool := (fldsOf o).all fun q => offB f q.1 q.2.1
theorem offs_lay {o f : Int} (h : offs o f = true) (n : Int) : ∀ q ∈ fldsOf o, get (layV n f) q.1 q.2.1 = 0 :=
  fun q hq => get_lay_off n f _ _ (List.all_eq_true.1 h q hq)
theorem clear_shl {o : Int} {k j a : Nat} (h : clear o k j = true) (ha : a < 2 ^ j) : ∀ q ∈ fldsOf o, get (a <<< k) q.1 q.2.1 = 0 :=
  fun q hq => get_shl_off a k j _ _ ha (apart_or (List.all_eq_true.1 h q hq))
theorem free0 (o : Int) (k : Nat) : Free o 0 k := ⟨by decide, Or.inl rfl⟩
theorem zero_off (o : Int) : ∀ q ∈ fldsOf o, get 0 q.1 q.2.1 = 0 := fun q _ => get_zero _ _
theorem shl0 (k l m : Nat) : get (0 <<< k) l m = 0 := by rw [Nat.zero_shiftLeft]; exact get_zero l m
theorem lay_small (im : Int) (h : 0 ≤ im ∧ im < 2048) : layV im 1 = im.toNat <<< 20 := by
  have hB : layB im 1 = true := by
    rw [lay_iff im 1 (by omega), bts_eq.1]
    exact decide_eq_true ⟨by omega, by omega, by rw [show zer 1 = 0 from rfl]; omega⟩
  rw [layV, if_pos hB, F.wordV, show spn 1 = [(20, 12)] from rfl, show zer 1 = 0 from rfl, sca, sca, Nat.or_zero, get_div]
  congr 1
  unfold low
  omega

section
variable {B a b c N : Nat}
theorem put_rd (hB : get B 7 5 = 0) (ha : a < 32) (hN : get N 7 5 = 0) (hc : c < 32) (hb : b < 32) : get (put B a b c N) 7 5 = a := by
  rw [put_get, hB, hN, get_shl_at a 7 5 ha, get_shl_off b 15 5 7 5 hb (by omega), get_shl_off c 20 5 7 5 hc (by omega)]; simp
theorem put_rs1 (hB : get B 15 5 = 0) (ha : a < 32) (hN : get N 15 5 = 0) (hc : c < 32) (hb : b < 32) : get (put B a b c N) 15 5 = b := by
  rw [put_get, hB, hN, get_shl_at b 15 5 hb, get_shl_off a 7 5 15 5 ha (by omega), get_shl_off c 20 5 15 5 hc (by omega)]; simp
theorem put_rs2 (hB : get B 20 5 = 0) (ha : a < 32) (hN : get N 20 5 = 0) (hc : c < 32) (hb : b < 32) : get (put B a b c N) 20 5 = c := by
  rw [put_get, hB, hN, get_shl_at c 20 5 hc, get_shl_off a 7 5 20 5 ha (by omega), get_shl_off b 15 5 20 5 hb (by omega)]; simp
theorem put_imm (f n : Int) (hB : layB n f = true) (h : ∀ p ∈ spn f, get B p.1 p.2 = 0 ∧ get (a <<< 7) p.1 p.2 = 0 ∧ get (b <<< 15) p.1 p.2 = 0 ∧ get (c <<< 20) p.1 p.2 = 0) : immV (put B a b c (layV n f)) f = n := by
  rw [imm_congr (x := layV n f) f, lay_told n f hB]
  intro p hp
  obtain ⟨h1, h2, h3, h4⟩ := h p hp
  rw [put_get, h1, h2, h3, h4]; simp
end

def tgtOk (f o : Int) : Bool := clear o 7 5 && offs o f && offB f 7 5 && (spn f).all fun p => clear o p.1 p.2 && apart (p.1, p.2, 0) 7 5
theorem fam_tgt {o f n : Int} {a : Nat} (ho : 1 ≤ o ∧ o ≤ 97) (hs : ∀ x, shape o x = tgt x (immV x f)) (ha : a < 32) (hB : layB n f = true) (hk : tgtOk f o = true) :
    put (baseV o) a 0 0 (layV n f) < 4294967296 ∧ D.wordV (put (baseV o) a 0 0 (layV n f)) = (o, (a : Int), 0, 0, n) := by
  simp only [tgtOk, Bool.and_eq_true] at hk
  obtain ⟨⟨⟨k1, k2⟩, k3⟩, k4⟩ := hk
  obtain ⟨h1, h2⟩ := put_op o ho (a := a) (b := 0) (c := 0) ⟨ha, Or.inr k1⟩ (free0 o 15) (free0 o 20) (layV_lt n f) (offs_lay k2 n)
  refine ⟨h1, ?_⟩
  rw [h2, hs, tgt, put_rd (base_off (by omega) k1) ha (get_lay_off n f 7 5 k3) (by omega) (by omega), put_imm f n hB]
  intro p hp
  have hp' := List.all_eq_true.1 k4 p hp
  rw [Bool.and_eq_true] at hp'
  exact ⟨base_off (by omega) hp'.1, get_shl_off a 7 5 _ _ ha (apart_or hp'.2), shl0 _ _ _, shl0 _ _ _⟩
def srcOk (f o : Int) : Bool := clear o 7 5 && clear o 15 5 && offs o f && offB f 7 5 && offB f 15 5 && (spn f).all fun p => clear o p.1 p.2 && apart (p.1, p.2, 0) 7 5 && apart (p.1, p.2, 0) 15 5
theorem fam_src {o f n : Int} {a b : Nat} (ho : 1 ≤ o ∧ o ≤ 97) (hs : ∀ x, shape o x = src x (immV x f)) (ha : a < 32) (hb : b < 32) (hB : layB n f = true) (hk : srcOk f o = true) :
    put (baseV o) a b 0 (layV n f) < 4294967296 ∧ D.wordV (put (baseV o) a b 0 (layV n f)) = (o, (a : Int), (b : Int), 0, n) := by
  simp only [srcOk, Bool.and_eq_true] at hk
  obtain ⟨⟨⟨⟨⟨k1, k0⟩, k2⟩, k3⟩, k5⟩, k4⟩ := hk
  obtain ⟨h1, h2⟩ := put_op o ho (a := a) (b := b) (c := 0) ⟨ha, Or.inr k1⟩ ⟨hb, Or.inr k0⟩ (free0 o 20) (layV_lt n f) (offs_lay k2 n)
  refine ⟨h1, ?_⟩
  rw [h2, hs, src, put_rd (base_off (by omega) k1) ha (get_lay_off n f 7 5 k3) (by omega) hb, put_rs1 (base_off (by omega) k0) ha (get_lay_off n f 15 5 k5) (by omega) hb, put_imm f n hB]
  intro p hp
  have hp' := List.all_eq_true.1 k4 p hp
  simp only [Bool.and_eq_true] at hp'
  exact ⟨base_off (by omega) hp'.1.1, get_shl_off a 7 5 _ _ ha (apart_or hp'.1.2), get_shl_off b 15 5 _ _ hb (apart_or hp'.2), shl0 _ _ _⟩
def parOk (f o : Int) : Bool := clear o 15 5 && clear o 20 5 && offs o f && offB f 15 5 && offB f 20 5 && (spn f).all fun p => clear o p.1 p.2 && apart (p.1, p.2, 0) 15 5 && apart (p.1, p.2, 0) 20 5
theorem fam_par {o f n : Int} {b c : Nat} (ho : 1 ≤ o ∧ o ≤ 97) (hs : ∀ x, shape o x = par x (immV x f)) (hb : b < 32) (hc : c < 32) (hB : layB n f = true) (hk : parOk f o = true) :
    put (baseV o) 0 b c (layV n f) < 4294967296 ∧ D.wordV (put (baseV o) 0 b c (layV n f)) = (o, 0, (b : Int), (c : Int), n) := by
  simp only [parOk, Bool.and_eq_true] at hk
  obtain ⟨⟨⟨⟨⟨k1, k0⟩, k2⟩, k3⟩, k5⟩, k4⟩ := hk
  obtain ⟨h1, h2⟩ := put_op o ho (a := 0) (b := b) (c := c) (free0 o 7) ⟨hb, Or.inr k1⟩ ⟨hc, Or.inr k0⟩ (layV_lt n f) (offs_lay k2 n)
  refine ⟨h1, ?_⟩
  rw [h2, hs, par, put_rs1 (base_off (by omega) k1) (by omega) (get_lay_off n f 15 5 k3) hc hb, put_rs2 (base_off (by omega) k0) (by omega) (get_lay_off n f 20 5 k5) hc hb, put_imm f n hB]
  intro p hp
  have hp' := List.all_eq_true.1 k4 p hp
  simp only [Bool.and_eq_true] at hp'
  exact ⟨base_off (by omega) hp'.1.1, shl0 _ _ _, get_shl_off b 15 5 _ _ hb (apart_or hp'.1.2), get_shl_off c 20 5 _ _ hc (apart_or hp'.2)⟩
def smallOk (j : Nat) (o : Int) : Bool := clear o 7 5 && clear o 15 5 && clear o 20 j
theorem fam_small {o : Int} {a b n j : Nat} (ho : 1 ≤ o ∧ o ≤ 97) (hj : j ≤ 12) (hs : ∀ x, shape o x = src x (get x 20 j : Nat)) (ha : a < 32) (hb : b < 32) (hn : n < 2 ^ j) (hk : smallOk j o = true) :
    put (baseV o) a b 0 (n <<< 20) < 4294967296 ∧ D.wordV (put (baseV o) a b 0 (n <<< 20)) = (o, (a : Int), (b : Int), 0, (n : Int)) := by
  simp only [smallOk, Bool.and_eq_true] at hk
  obtain ⟨⟨k1, k0⟩, k2⟩ := hk
  have hl : n <<< 20 < 4294967296 := by
    rw [Nat.shiftLeft_eq]
    have : (2 : Nat) ^ j ≤ 2 ^ 12 := Nat.pow_le_pow_right (by omega) hj
    omega
  obtain ⟨h1, h2⟩ := put_op o ho (a := a) (b := b) (c := 0) ⟨ha, Or.inr k1⟩ ⟨hb, Or.inr k0⟩ (free0 o 20) hl (clear_shl k2 hn)
  refine ⟨h1, ?_⟩
  have e : get (put (baseV o) a b 0 (n <<< 20)) 20 j = n := by
    rw [put_get, base_off (by omega) k2, get_shl_off a 7 5 20 j ha (by omega), get_shl_off b 15 5 20 j hb (by omega), shl0, get_shl_at n 20 j hn]; simp
  rw [h2, hs, src, e, put_rd (base_off (by omega) k1) ha (get_shl_off n 20 j 7 5 hn (by omega)) (by omega) hb, put_rs1 (base_off (by omega) k0) ha (get_shl_off n 20 j 15 5 hn (by omega)) (by omega) hb]
def thrOk (o : Int) : Bool := clear o 7 5 && clear o 15 5 && clear o 20 5
theorem fam_thr {o : Int} {a b c : Nat} (ho : 1 ≤ o ∧ o ≤ 97) (hs : ∀ x, shape o x = thr x) (ha : a < 32) (hb : b < 32) (hc : c < 32) (hk : thrOk o = true) :
    put (baseV o) a b c 0 < 4294967296 ∧ D.wordV (put (baseV o) a b c 0) = (o, (a : Int), (b : Int), (c : Int), 0) := by
  simp only [thrOk, Bool.and_eq_true] at hk
  obtain ⟨⟨k1, k0⟩, k2⟩ := hk
  obtain ⟨h1, h2⟩ := put_op o ho (a := a) (b := b) (c := c) (N := 0) ⟨ha, Or.inr k1⟩ ⟨hb, Or.inr k0⟩ ⟨hc, Or.inr k2⟩ (by omega) (zero_off o)
  refine ⟨h1, ?_⟩
  rw [h2, hs, thr, put_rd (base_off (by omega) k1) ha (get_zero _ _) hc hb, put_rs1 (base_off (by omega) k0) ha (get_zero _ _) hc hb, put_rs2 (base_off (by omega) k2) ha (get_zero _ _) hc hb]
theorem fam_bar {o : Int} (ho : 1 ≤ o ∧ o ≤ 97) (hs : ∀ x, shape o x = bar) :
    put (baseV o) 0 0 0 0 < 4294967296 ∧ D.wordV (put (baseV o) 0 0 0 0) = (o, 0, 0, 0, 0) := by
  obtain ⟨h1, h2⟩ := put_op o ho (a := 0) (b := 0) (c := 0) (N := 0) (free0 o 7) (free0 o 15) (free0 o 20) (by omega) (zero_off o)
  exact ⟨h1, by rw [h2, hs]; rfl⟩
theorem fam_par0 {o : Int} {b c : Nat} (ho : 1 ≤ o ∧ o ≤ 97) (hs : ∀ x, shape o x = par x 0) (hb : b < 32) (hc : c < 32) (hk : (clear o 15 5 && clear o 20 5) = true) :
    put (baseV o) 0 b c 0 < 4294967296 ∧ D.wordV (put (baseV o) 0 b c 0) = (o, 0, (b : Int), (c : Int), 0) := by
  simp only [Bool.and_eq_true] at hk
  obtain ⟨h1, h2⟩ := put_op o ho (a := 0) (b := b) (c := c) (N := 0) (free0 o 7) ⟨hb, Or.inr hk.1⟩ ⟨hc, Or.inr hk.2⟩ (by omega) (zero_off o)
  refine ⟨h1, ?_⟩
  rw [h2, hs, par, put_rs1 (base_off (by omega) hk.1) (by omega) (get_zero _ _) hc hb, put_rs2 (base_off (by omega) hk.2) (by omega) (get_zero _ _) hc hb]
theorem fam_src0 {o : Int} {a b : Nat} (ho : 1 ≤ o ∧ o ≤ 97) (hs : ∀ x, shape o x = src x 0) (ha : a < 32) (hb : b < 32) (hk : (clear o 7 5 && clear o 15 5) = true) :
    put (baseV o) a b 0 0 < 4294967296 ∧ D.wordV (put (baseV o) a b 0 0) = (o, (a : Int), (b : Int), 0, 0) := by
  simp only [Bool.and_eq_true] at hk
  obtain ⟨h1, h2⟩ := put_op o ho (a := a) (b := b) (c := 0) (N := 0) ⟨ha, Or.inr hk.1⟩ ⟨hb, Or.inr hk.2⟩ (free0 o 20) (by omega) (zero_off o)
  refine ⟨h1, ?_⟩
  rw [h2, hs, src, put_rd (base_off (by omega) hk.1) ha (get_zero _ _) (by omega) hb, put_rs1 (base_off (by omega) hk.2) ha (get_zero _ _) (by omega) hb]

/-! ### The word of an instruction -/
/-- The bits of a number, by the op. -/
def numW (o im : Int) : Nat :=
  if o ≤ 0 then 0 else if o ≤ 2 then layV im 4 else if o ≤ 3 then layV im 5 else if o ≤ 4 then layV im 1 else if o ≤ 10 then layV im 3 else if o ≤ 17 then layV im 1 else if o ≤ 21 then layV im 2 else if o ≤ 30 then layV im 1
  else if o ≤ 40 then 0 else if o ≤ 44 then layV im 1 else if o ≤ 69 then 0 else if o ≤ 75 then im.toNat <<< 20 else 0
def layW (o : Int) (p : Parts) : Nat := put (baseV o) p.1.toNat p.2.1.toNat p.2.2.1.toNat (numW o p.2.2.2)
theorem num0 (o im : Int) (h : o ≤ 0) : numW o im = 0 := by
  unfold numW; rw [if_pos (by omega)]
theorem num1 (o im : Int) (h : 1 ≤ o ∧ o ≤ 2) : numW o im = layV im 4 := by
  unfold numW; rw [if_neg (by omega), if_pos (by omega)]
theorem num2 (o im : Int) (h : 3 ≤ o ∧ o ≤ 3) : numW o im = layV im 5 := by
  unfold numW; rw [if_neg (by omega), if_neg (by omega), if_pos (by omega)]
theorem num3 (o im : Int) (h : 4 ≤ o ∧ o ≤ 4) : numW o im = layV im 1 := by
  unfold numW; rw [if_neg (by omega), if_neg (by omega), if_neg (by omega), if_pos (by omega)]
theorem num4 (o im : Int) (h : 5 ≤ o ∧ o ≤ 10) : numW o im = layV im 3 := by
  unfold numW; rw [if_neg (by omega), if_neg (by omega), if_neg (by omega), if_neg (by omega), if_pos (by omega)]
theorem num5 (o im : Int) (h : 11 ≤ o ∧ o ≤ 17) : numW o im = layV im 1 := by
  unfold numW; rw [if_neg (by omega), if_neg (by omega), if_neg (by omega), if_neg (by omega), if_neg (by omega), if_pos (by omega)]
theorem num6 (o im : Int) (h : 18 ≤ o ∧ o ≤ 21) : numW o im = layV im 2 := by
  unfold numW; rw [if_neg (by omega), if_neg (by omega), if_neg (by omega), if_neg (by omega), if_neg (by omega), if_neg (by omega), if_pos (by omega)]
theorem num7 (o im : Int) (h : 22 ≤ o ∧ o ≤ 30) : numW o im = layV im 1 := by
  unfold numW; rw [if_neg (by omega), if_neg (by omega), if_neg (by omega), if_neg (by omega), if_neg (by omega), if_neg (by omega), if_neg (by omega), if_pos (by omega)]
theorem num8 (o im : Int) (h : 31 ≤ o ∧ o ≤ 40) : numW o im = 0 := by
  unfold numW; rw [if_neg (by omega), if_neg (by omega), if_neg (by omega), if_neg (by omega), if_neg (by omega), if_neg (by omega), if_neg (by omega), if_neg (by omega), if_pos (by omega)]
theorem num9 (o im : Int) (h : 41 ≤ o ∧ o ≤ 44) : numW o im = layV im 1 := by
  unfold numW; rw [if_neg (by omega), if_neg (by omega), if_neg (by omega), if_neg (by omega), if_neg (by omega), if_neg (by omega), if_neg (by omega), if_neg (by omega), if_neg (by omega), if_pos (by omega)]
theorem num10 (o im : Int) (h : 45 ≤ o ∧ o ≤ 69) : numW o im = 0 := by
  unfold numW; rw [if_neg (by omega), if_neg (by omega), if_neg (by omega), if_neg (by omega), if_neg (by omega), if_neg (by omega), if_neg (by omega), if_neg (by omega), if_neg (by omega), if_neg (by omega), if_pos (by omega)]
theorem num11 (o im : Int) (h : 70 ≤ o ∧ o ≤ 75) : numW o im = im.toNat <<< 20 := by
  unfold numW; rw [if_neg (by omega), if_neg (by omega), if_neg (by omega), if_neg (by omega), if_neg (by omega), if_neg (by omega), if_neg (by omega), if_neg (by omega), if_neg (by omega), if_neg (by omega), if_neg (by omega), if_pos (by omega)]
theorem num12 (o im : Int) (h : 76 ≤ o) : numW o im = 0 := by
  unfold numW; rw [if_neg (by omega), if_neg (by omega), if_neg (by omega), if_neg (by omega), if_neg (by omega), if_neg (by omega), if_neg (by omega), if_neg (by omega), if_neg (by omega), if_neg (by omega), if_neg (by omega), if_neg (by omega)]
theorem lay1 {n : Int} (h : -2048 ≤ n ∧ n < 2048) : layB n 1 = true := by
  rw [lay_iff n 1 (by omega), bts_eq.1]; exact decide_eq_true ⟨by omega, by omega, by rw [show zer 1 = 0 from rfl]; omega⟩
theorem lay2 {n : Int} (h : -2048 ≤ n ∧ n < 2048) : layB n 2 = true := by
  rw [lay_iff n 2 (by omega), bts_eq.2.1]; exact decide_eq_true ⟨by omega, by omega, by rw [show zer 2 = 0 from rfl]; omega⟩
theorem lay3 {n : Int} (h : -4096 ≤ n ∧ n < 4096 ∧ n % 2 = 0) : layB n 3 = true := by
  rw [lay_iff n 3 (by omega), bts_eq.2.2.1]; exact decide_eq_true ⟨by omega, by omega, by rw [show zer 3 = 1 from rfl]; omega⟩
theorem lay4 {n : Int} (h : -2147483648 ≤ n ∧ n < 2147483648 ∧ n % 4096 = 0) : layB n 4 = true := by
  rw [lay_iff n 4 (by omega), bts_eq.2.2.2.1]; exact decide_eq_true ⟨by omega, by omega, by rw [show zer 4 = 12 from rfl]; omega⟩
theorem lay5 {n : Int} (h : -1048576 ≤ n ∧ n < 1048576 ∧ n % 2 = 0) : layB n 5 = true := by
  rw [lay_iff n 5 (by omega), bts_eq.2.2.2.2]; exact decide_eq_true ⟨by omega, by omega, by rw [show zer 5 = 1 from rfl]; omega⟩
/-- What a word can say is laid as a word that says it. -/
theorem lay_word (o : Int) (p : Parts) (h : Can o p) : layW o p < 4294967296 ∧ D.wordV (layW o p) = (o, p) := by
  obtain ⟨rd, rs1, rs2, im⟩ := p
  obtain ⟨ho, ⟨r1, r2⟩, ⟨s1, s2⟩, ⟨t1, t2⟩, hl⟩ := h
  simp only at r1 r2 s1 s2 t1 t2 hl
  obtain ⟨a, rfl⟩ : ∃ n : Nat, rd = n := ⟨rd.toNat, by omega⟩
  obtain ⟨b, rfl⟩ : ∃ n : Nat, rs1 = n := ⟨rs1.toNat, by omega⟩
  obtain ⟨c, rfl⟩ : ∃ n : Nat, rs2 = n := ⟨rs2.toNat, by omega⟩
  have ha : a < 32 := by omega
  have hb : b < 32 := by omega
  have hc : c < 32 := by omega
  clear r1 r2 s1 s2 t1 t2
  unfold layW
  simp only [Int.toNat_natCast]
  rcases (show o ≤ 0 ∨ (1 ≤ o ∧ o ≤ 2) ∨ (3 ≤ o ∧ o ≤ 3) ∨ (4 ≤ o ∧ o ≤ 4) ∨ (5 ≤ o ∧ o ≤ 10) ∨ (11 ≤ o ∧ o ≤ 17) ∨ (18 ≤ o ∧ o ≤ 21) ∨ (22 ≤ o ∧ o ≤ 27) ∨ (28 ≤ o ∧ o ≤ 30) ∨ (31 ≤ o ∧ o ≤ 40) ∨ (41 ≤ o ∧ o ≤ 41) ∨ (42 ≤ o ∧ o ≤ 44) ∨ (45 ≤ o ∧ o ≤ 62) ∨ (63 ≤ o ∧ o ≤ 68) ∨ (69 ≤ o ∧ o ≤ 69) ∨ (70 ≤ o ∧ o ≤ 75) ∨ (76 ≤ o ∧ o ≤ 76) ∨ (77 ≤ o ∧ o ≤ 86) ∨ (87 ≤ o ∧ o ≤ 87) ∨ (88 ≤ o ∧ o ≤ 97) by omega) with h | h | h | h | h | h | h | h | h | h | h | h | h | h | h | h | h | h | h | h
  · rw [lim0 _ _ _ _ _ (by omega)] at hl
    rw [num0 o im (by omega)]
    obtain ⟨e1, e2, e3, rfl⟩ := hl
    obtain rfl : o = 0 := by omega
    obtain rfl : a = 0 := by omega
    obtain rfl : b = 0 := by omega
    obtain rfl : c = 0 := by omega
    exact ⟨by decide, by decide +kernel⟩
  · rw [lim1 _ _ _ _ _ (by omega)] at hl
    rw [num1 o im (by omega)]
    obtain ⟨e2, e3, hi⟩ := hl
    obtain rfl : b = 0 := by omega
    obtain rfl : c = 0 := by omega
    exact fam_tgt (by omega) (fun x => shape1 o x (by omega)) ha (lay4 hi) (rng_at (a := 1) (b := 2) (P := tgtOk 4) (by decide +kernel) o (by omega))
  · rw [lim2 _ _ _ _ _ (by omega)] at hl
    rw [num2 o im (by omega)]
    obtain ⟨e2, e3, hi⟩ := hl
    obtain rfl : b = 0 := by omega
    obtain rfl : c = 0 := by omega
    exact fam_tgt (by omega) (fun x => shape2 o x (by omega)) ha (lay5 hi) (rng_at (a := 3) (b := 3) (P := tgtOk 5) (by decide +kernel) o (by omega))
  · rw [lim3 _ _ _ _ _ (by omega)] at hl
    rw [num3 o im (by omega)]
    obtain ⟨e3, hi⟩ := hl
    obtain rfl : c = 0 := by omega
    exact fam_src (by omega) (fun x => shape3 o x (by omega)) ha hb (lay1 hi) (rng_at (a := 4) (b := 4) (P := srcOk 1) (by decide +kernel) o (by omega))
  · rw [lim4 _ _ _ _ _ (by omega)] at hl
    rw [num4 o im (by omega)]
    obtain ⟨e1, hi⟩ := hl
    obtain rfl : a = 0 := by omega
    exact fam_par (by omega) (fun x => shape4 o x (by omega)) hb hc (lay3 hi) (rng_at (a := 5) (b := 10) (P := parOk 3) (by decide +kernel) o (by omega))
  · rw [lim5 _ _ _ _ _ (by omega)] at hl
    rw [num5 o im (by omega)]
    obtain ⟨e3, hi⟩ := hl
    obtain rfl : c = 0 := by omega
    exact fam_src (by omega) (fun x => shape5 o x (by omega)) ha hb (lay1 hi) (rng_at (a := 11) (b := 17) (P := srcOk 1) (by decide +kernel) o (by omega))
  · rw [lim6 _ _ _ _ _ (by omega)] at hl
    rw [num6 o im (by omega)]
    obtain ⟨e1, hi⟩ := hl
    obtain rfl : a = 0 := by omega
    exact fam_par (by omega) (fun x => shape6 o x (by omega)) hb hc (lay2 hi) (rng_at (a := 18) (b := 21) (P := parOk 2) (by decide +kernel) o (by omega))
  · rw [lim7 _ _ _ _ _ (by omega)] at hl
    rw [num7 o im (by omega)]
    obtain ⟨e3, hi⟩ := hl
    obtain rfl : c = 0 := by omega
    exact fam_src (by omega) (fun x => shape7 o x (by omega)) ha hb (lay1 hi) (rng_at (a := 22) (b := 27) (P := srcOk 1) (by decide +kernel) o (by omega))
  · rw [lim8 _ _ _ _ _ (by omega)] at hl
    rw [num7 o im (by omega)]
    obtain ⟨e3, hi⟩ := hl
    obtain rfl : c = 0 := by omega
    rw [lay_small im (by omega)]
    obtain ⟨n, rfl⟩ : ∃ n : Nat, im = n := ⟨im.toNat, by omega⟩
    rw [Int.toNat_natCast]
    exact fam_small (by omega) (by omega) (fun x => shape8 o x (by omega)) ha hb (show n < 2 ^ 6 by omega) (rng_at (a := 28) (b := 30) (P := smallOk 6) (by decide +kernel) o (by omega))
  · rw [lim9 _ _ _ _ _ (by omega)] at hl
    rw [num8 o im (by omega)]
    subst hl
    exact fam_thr (by omega) (fun x => shape9 o x (by omega)) ha hb hc (rng_at (a := 31) (b := 40) (P := thrOk) (by decide +kernel) o (by omega))
  · rw [lim10 _ _ _ _ _ (by omega)] at hl
    rw [num9 o im (by omega)]
    obtain ⟨e3, hi⟩ := hl
    obtain rfl : c = 0 := by omega
    exact fam_src (by omega) (fun x => shape10 o x (by omega)) ha hb (lay1 hi) (rng_at (a := 41) (b := 41) (P := srcOk 1) (by decide +kernel) o (by omega))
  · rw [lim11 _ _ _ _ _ (by omega)] at hl
    rw [num9 o im (by omega)]
    obtain ⟨e3, hi⟩ := hl
    obtain rfl : c = 0 := by omega
    rw [lay_small im (by omega)]
    obtain ⟨n, rfl⟩ : ∃ n : Nat, im = n := ⟨im.toNat, by omega⟩
    rw [Int.toNat_natCast]
    exact fam_small (by omega) (by omega) (fun x => shape11 o x (by omega)) ha hb (show n < 2 ^ 5 by omega) (rng_at (a := 42) (b := 44) (P := smallOk 5) (by decide +kernel) o (by omega))
  · rw [lim12 _ _ _ _ _ (by omega)] at hl
    rw [num10 o im (by omega)]
    subst hl
    exact fam_thr (by omega) (fun x => shape12 o x (by omega)) ha hb hc (rng_at (a := 45) (b := 62) (P := thrOk) (by decide +kernel) o (by omega))
  · rw [lim13 _ _ _ _ _ (by omega)] at hl
    rw [num10 o im (by omega)]
    obtain ⟨e1, e2, e3, rfl⟩ := hl
    obtain rfl : a = 0 := by omega
    obtain rfl : b = 0 := by omega
    obtain rfl : c = 0 := by omega
    exact fam_bar (by omega) (fun x => shape13 o x (by omega))
  · rw [lim14 _ _ _ _ _ (by omega)] at hl
    rw [num10 o im (by omega)]
    obtain ⟨e1, rfl⟩ := hl
    obtain rfl : a = 0 := by omega
    exact fam_par0 (by omega) (fun x => shape14 o x (by omega)) hb hc (rng_at (a := 69) (b := 69) (P := fun o => clear o 15 5 && clear o 20 5) (by decide +kernel) o (by omega))
  · rw [lim15 _ _ _ _ _ (by omega)] at hl
    rw [num11 o im (by omega)]
    obtain ⟨e3, hi⟩ := hl
    obtain rfl : c = 0 := by omega
    obtain ⟨n, rfl⟩ : ∃ n : Nat, im = n := ⟨im.toNat, by omega⟩
    rw [Int.toNat_natCast]
    exact fam_small (by omega) (by omega) (fun x => shape15 o x (by omega)) ha hb (show n < 2 ^ 12 by omega) (rng_at (a := 70) (b := 75) (P := smallOk 12) (by decide +kernel) o (by omega))
  · rw [lim16 _ _ _ _ _ (by omega)] at hl
    rw [num12 o im (by omega)]
    obtain ⟨e3, rfl⟩ := hl
    obtain rfl : c = 0 := by omega
    exact fam_src0 (by omega) (fun x => shape16 o x (by omega)) ha hb (rng_at (a := 76) (b := 76) (P := fun o => clear o 7 5 && clear o 15 5) (by decide +kernel) o (by omega))
  · rw [lim17 _ _ _ _ _ (by omega)] at hl
    rw [num12 o im (by omega)]
    subst hl
    exact fam_thr (by omega) (fun x => shape17 o x (by omega)) ha hb hc (rng_at (a := 77) (b := 86) (P := thrOk) (by decide +kernel) o (by omega))
  · rw [lim18 _ _ _ _ _ (by omega)] at hl
    rw [num12 o im (by omega)]
    obtain ⟨e3, rfl⟩ := hl
    obtain rfl : c = 0 := by omega
    exact fam_src0 (by omega) (fun x => shape18 o x (by omega)) ha hb (rng_at (a := 87) (b := 87) (P := fun o => clear o 7 5 && clear o 15 5) (by decide +kernel) o (by omega))
  · rw [lim19 _ _ _ _ _ (by omega)] at hl
    rw [num12 o im (by omega)]
    subst hl
    exact fam_thr (by omega) (fun x => shape19 o x (by omega)) ha hb hc (rng_at (a := 88) (b := 97) (P := thrOk) (by decide +kernel) o (by omega))

/-! ### No word of it is less -/
def Sub (a x : Nat) : Prop := a ||| x = x
theorem Sub.or {a b x : Nat} (ha : Sub a x) (hb : Sub b x) : Sub (a ||| b) x := by
  unfold Sub at *; rw [Nat.or_assoc, hb, ha]
theorem sub0 (x : Nat) : Sub 0 x := Nat.zero_or x
theorem Sub.le {a x : Nat} (h : Sub a x) : a ≤ x := by
  have : a ≤ a ||| x := Nat.left_le_or
  rw [h] at this; exact this
theorem get_sub (x l m : Nat) : Sub (get x l m <<< l) x := by
  apply Nat.eq_of_testBit_eq
  intro i
  rw [Nat.testBit_or, Nat.testBit_shiftLeft, get_bit]
  by_cases h : l ≤ i
  · rw [show l + (i - l) = i by omega]
    cases x.testBit i <;> simp
  · simp [h]
theorem has_sub {x : Nat} : ∀ L : Flds, Has L x → Sub (baseOf L) x
  | [], _ => sub0 x
  | q :: L, h => by
    have h1 : get x q.1 q.2.1 = q.2.2 := h q (by simp)
    have h2 := get_sub x q.1 q.2.1
    rw [h1] at h2
    exact h2.or (has_sub L fun q hq => h q (by simp [hq]))
theorem lay_sub2 (x : Nat) (f : Int) (h : 1 ≤ f ∧ f ≤ 5) (hx : x < 4294967296) : Sub (layV (immV x f) f) x := by
  have h1 := lay_sub x f h hx
  have h2 := layV_lt (immV x f) f
  apply Nat.eq_of_testBit_eq
  intro i
  have h3 : (layV (immV x f) f &&& (4294967295 - x)).testBit i = false := by rw [h1, Nat.zero_testBit]
  rw [Nat.testBit_and] at h3
  rw [Nat.testBit_or]
  by_cases hi : i < 32
  · have h4 : (4294967295 - x).testBit i = !x.testBit i := by
      have := Nat.testBit_two_pow_sub_succ (n := 32) (x := x) hx i
      rw [show 2 ^ 32 - (x + 1) = 4294967295 - x by omega] at this
      rw [this]; simp [hi]
    rw [h4] at h3
    cases hb : x.testBit i
    · rw [hb] at h3; simp at h3; simp [h3]
    · simp
  · have h5 : (layV (immV x f) f).testBit i = false := Nat.testBit_lt_two_pow (Nat.lt_of_lt_of_le h2 (Nat.pow_le_pow_right (n := 2) (by omega) (show 32 ≤ i by omega)))
    simp [h5]
theorem put_sub {B a b c N x : Nat} (hB : Sub B x) (ha : Sub (a <<< 7) x) (hb : Sub (b <<< 15) x) (hc : Sub (c <<< 20) x) (hN : Sub N x) : Sub (put B a b c N) x :=
  (((hB.or ha).or hb).or hc).or hN
theorem shl_sub0 (k x : Nat) : Sub (0 <<< k) x := by rw [Nat.zero_shiftLeft]; exact sub0 x
theorem lay_sub3 (x : Nat) (hx : x < 4294967296) (o : Int) (ho : 1 ≤ o ∧ o ≤ 97) (h : (D.wordV x).1 = o) : Sub (layW o (shape o x)) x := by
  have hB : Sub (baseV o) x := has_sub _ ((word_op x hx o ho).1 h)
  rcases (show (1 ≤ o ∧ o ≤ 2) ∨ (3 ≤ o ∧ o ≤ 3) ∨ (4 ≤ o ∧ o ≤ 4) ∨ (5 ≤ o ∧ o ≤ 10) ∨ (11 ≤ o ∧ o ≤ 17) ∨ (18 ≤ o ∧ o ≤ 21) ∨ (22 ≤ o ∧ o ≤ 27) ∨ (28 ≤ o ∧ o ≤ 30) ∨ (31 ≤ o ∧ o ≤ 40) ∨ (41 ≤ o ∧ o ≤ 41) ∨ (42 ≤ o ∧ o ≤ 44) ∨ (45 ≤ o ∧ o ≤ 62) ∨ (63 ≤ o ∧ o ≤ 68) ∨ (69 ≤ o ∧ o ≤ 69) ∨ (70 ≤ o ∧ o ≤ 75) ∨ (76 ≤ o ∧ o ≤ 76) ∨ (77 ≤ o ∧ o ≤ 86) ∨ (87 ≤ o ∧ o ≤ 87) ∨ (88 ≤ o ∧ o ≤ 97) by omega) with hr | hr | hr | hr | hr | hr | hr | hr | hr | hr | hr | hr | hr | hr | hr | hr | hr | hr | hr
  · rw [shape1 o x (by omega), tgt, layW]
    simp only
    rw [num1 o _ (by omega)]
    exact put_sub hB (get_sub x 7 5) (shl_sub0 15 x) (shl_sub0 20 x) (lay_sub2 x 4 (by omega) hx)
  · rw [shape2 o x (by omega), tgt, layW]
    simp only
    rw [num2 o _ (by omega)]
    exact put_sub hB (get_sub x 7 5) (shl_sub0 15 x) (shl_sub0 20 x) (lay_sub2 x 5 (by omega) hx)
  · rw [shape3 o x (by omega), src, layW]
    simp only
    rw [num3 o _ (by omega)]
    exact put_sub hB (get_sub x 7 5) (get_sub x 15 5) (shl_sub0 20 x) (lay_sub2 x 1 (by omega) hx)
  · rw [shape4 o x (by omega), par, layW]
    simp only
    rw [num4 o _ (by omega)]
    exact put_sub hB (shl_sub0 7 x) (get_sub x 15 5) (get_sub x 20 5) (lay_sub2 x 3 (by omega) hx)
  · rw [shape5 o x (by omega), src, layW]
    simp only
    rw [num5 o _ (by omega)]
    exact put_sub hB (get_sub x 7 5) (get_sub x 15 5) (shl_sub0 20 x) (lay_sub2 x 1 (by omega) hx)
  · rw [shape6 o x (by omega), par, layW]
    simp only
    rw [num6 o _ (by omega)]
    exact put_sub hB (shl_sub0 7 x) (get_sub x 15 5) (get_sub x 20 5) (lay_sub2 x 2 (by omega) hx)
  · rw [shape7 o x (by omega), src, layW]
    simp only
    rw [num7 o _ (by omega)]
    exact put_sub hB (get_sub x 7 5) (get_sub x 15 5) (shl_sub0 20 x) (lay_sub2 x 1 (by omega) hx)
  · rw [shape8 o x (by omega), src, layW]
    simp only
    rw [num7 o _ (by omega)]
    have hg := get_lt x 20 6
    rw [lay_small _ (by omega), Int.toNat_natCast]
    exact put_sub hB (get_sub x 7 5) (get_sub x 15 5) (shl_sub0 20 x) (get_sub x 20 6)
  · rw [shape9 o x (by omega), thr, layW]
    simp only
    rw [num8 o _ (by omega)]
    exact put_sub hB (get_sub x 7 5) (get_sub x 15 5) (get_sub x 20 5) (sub0 x)
  · rw [shape10 o x (by omega), src, layW]
    simp only
    rw [num9 o _ (by omega)]
    exact put_sub hB (get_sub x 7 5) (get_sub x 15 5) (shl_sub0 20 x) (lay_sub2 x 1 (by omega) hx)
  · rw [shape11 o x (by omega), src, layW]
    simp only
    rw [num9 o _ (by omega)]
    have hg := get_lt x 20 5
    rw [lay_small _ (by omega), Int.toNat_natCast]
    exact put_sub hB (get_sub x 7 5) (get_sub x 15 5) (shl_sub0 20 x) (get_sub x 20 5)
  · rw [shape12 o x (by omega), thr, layW]
    simp only
    rw [num10 o _ (by omega)]
    exact put_sub hB (get_sub x 7 5) (get_sub x 15 5) (get_sub x 20 5) (sub0 x)
  · rw [shape13 o x (by omega), bar, layW]
    simp only
    rw [num10 o _ (by omega)]
    exact put_sub hB (shl_sub0 7 x) (shl_sub0 15 x) (shl_sub0 20 x) (sub0 x)
  · rw [shape14 o x (by omega), par, layW]
    simp only
    rw [num10 o _ (by omega)]
    exact put_sub hB (shl_sub0 7 x) (get_sub x 15 5) (get_sub x 20 5) (sub0 x)
  · rw [shape15 o x (by omega), src, layW]
    simp only
    rw [num11 o _ (by omega)]
    rw [Int.toNat_natCast]
    exact put_sub hB (get_sub x 7 5) (get_sub x 15 5) (shl_sub0 20 x) (get_sub x 20 12)
  · rw [shape16 o x (by omega), src, layW]
    simp only
    rw [num12 o _ (by omega)]
    exact put_sub hB (get_sub x 7 5) (get_sub x 15 5) (shl_sub0 20 x) (sub0 x)
  · rw [shape17 o x (by omega), thr, layW]
    simp only
    rw [num12 o _ (by omega)]
    exact put_sub hB (get_sub x 7 5) (get_sub x 15 5) (get_sub x 20 5) (sub0 x)
  · rw [shape18 o x (by omega), src, layW]
    simp only
    rw [num12 o _ (by omega)]
    exact put_sub hB (get_sub x 7 5) (get_sub x 15 5) (shl_sub0 20 x) (sub0 x)
  · rw [shape19 o x (by omega), thr, layW]
    simp only
    rw [num12 o _ (by omega)]
    exact put_sub hB (get_sub x 7 5) (get_sub x 15 5) (get_sub x 20 5) (sub0 x)
/-- The word that the instruction of a word is laid as is no greater. -/
theorem lay_le (x : Nat) (hx : x < 4294967296) (h : (D.wordV x).1 ≠ 0) : layW (D.wordV x).1 (D.wordV x).2 ≤ x := by
  obtain ⟨h1, h2, h3⟩ := word_shape x
  have := (lay_sub3 x hx (D.wordV x).1 ⟨by omega, h2⟩ rfl).le
  rw [h3]; exact this
end Go.Proofs.YtpbeamnogfjagaaGreatDoor.D
end

section
namespace Go.Proofs.YtpbeamnogfjagaaGreatDoor.E
open Go Go.RowKit F D
set_option linter.unusedVariables false

abbrev Bytes := List UInt8
/-- A text of these bytes. -/
def txt (l : Bytes) : ByteArray := ⟨l.toArray⟩
theorem txt_inj {a b : Bytes} (h : txt a = txt b) : a = b := by
  unfold txt at h
  injection h with h
  simpa using h
theorem txt_app (a b : Bytes) : txt a ++ txt b = txt (a ++ b) := by
  apply ByteArray.ext
  rw [ByteArray.data_append]
  simp [txt]
theorem txt_list (a : Bytes) : (txt a).data.toList = a := by simp [txt]
def namL : List Bytes := [[105, 108, 108, 101, 103, 97, 108], [108, 117, 105], [97, 117, 105, 112, 99], [106, 97, 108], [106, 97, 108, 114], [98, 101, 113], [98, 110, 101], [98, 108, 116], [98, 103, 101], [98, 108, 116, 117], [98, 103, 101, 117], [108, 98], [108, 104], [108, 119], [108, 100], [108, 98, 117], [108, 104, 117], [108, 119, 117], [115, 98], [115, 104], [115, 119], [115, 100], [97, 100, 100, 105], [115, 108, 116, 105], [115, 108, 116, 105, 117], [120, 111, 114, 105], [111, 114, 105], [97, 110, 100, 105], [115, 108, 108, 105], [115, 114, 108, 105], [115, 114, 97, 105], [97, 100, 100], [115, 117, 98], [115, 108, 108], [115, 108, 116], [115, 108, 116, 117], [120, 111, 114], [115, 114, 108], [115, 114, 97], [111, 114], [97, 110, 100], [97, 100, 100, 105, 119], [115, 108, 108, 105, 119], [115, 114, 108, 105, 119], [115, 114, 97, 105, 119], [97, 100, 100, 119], [115, 117, 98, 119], [115, 108, 108, 119], [115, 114, 108, 119], [115, 114, 97, 119], [109, 117, 108], [109, 117, 108, 104], [109, 117, 108, 104, 115, 117], [109, 117, 108, 104, 117], [100, 105, 118], [100, 105, 118, 117], [114, 101, 109], [114, 101, 109, 117], [109, 117, 108, 119], [100, 105, 118, 119], [100, 105, 118, 117, 119], [114, 101, 109, 119], [114, 101, 109, 117, 119], [102, 101, 110, 99, 101], [102, 101, 110, 99, 101, 105], [101, 99, 97, 108, 108], [101, 98, 114, 101, 97, 107], [115, 114, 101, 116], [119, 102, 105], [115, 102, 101, 110, 99, 101], [99, 115, 114, 114, 119], [99, 115, 114, 114, 115], [99, 115, 114, 114, 99], [99, 115, 114, 114, 119, 105], [99, 115, 114, 114, 115, 105], [99, 115, 114, 114, 99, 105]]
def atoL : List Bytes := [[108, 114, 46], [115, 99, 46], [97, 109, 111, 115, 119, 97, 112, 46], [97, 109, 111, 97, 100, 100, 46], [97, 109, 111, 120, 111, 114, 46], [97, 109, 111, 97, 110, 100, 46], [97, 109, 111, 111, 114, 46], [97, 109, 111, 109, 105, 110, 46], [97, 109, 111, 109, 97, 120, 46], [97, 109, 111, 109, 105, 110, 117, 46], [97, 109, 111, 109, 97, 120, 117, 46]]
/-- The name of an op. -/
def nameV (o : Int) : Bytes :=
  if o < 0 ∨ 97 < o then [] else if o < 76 then namL.getD o.toNat [] else if o < 87 then atoL.getD (o - 76).toNat [] ++ [119] else atoL.getD (o - 87).toNat [] ++ [100]
def fullL : List Bytes := namL ++ atoL.map (· ++ [119]) ++ atoL.map (· ++ [100])
theorem name_full (o : Int) : nameV o = if o < 0 then [] else fullL.getD o.toNat [] := by
  by_cases h : 0 ≤ o ∧ o ≤ 97
  · have := rng_at (a := 0) (b := 97) (P := fun o => decide (nameV o = if o < 0 then [] else fullL.getD o.toNat [])) (by decide +kernel) o (by omega)
    exact of_decide_eq_true this
  · unfold nameV
    rw [if_pos (by omega)]
    split
    · rfl
    · rw [List.getD_eq_getElem?_getD, List.getElem?_eq_none]
      · rfl
      · have : fullL.length = 98 := by decide +kernel
        omega
end Go.Proofs.YtpbeamnogfjagaaGreatDoor.E
end
