/-
  Plain mathematics of layer 9 (csr): a row of twelve numbers; what is read of it, what a write leaves, what may be, as functions of whole numbers.
  Conditions: none; nothing here speaks of the program.
-/
import Derived.Test.YtkfmcbhoendocaaLayW
namespace Go.Proofs.Ytkfmcbhoendocaa.C
open Go Go.RowKit W D A
set_option linter.unusedVariables false

abbrev Cs := List Int
instance (a : Int) : Decidable (B64 a) := by unfold B64; exact inferInstance
/-- Twelve numbers of 64 bits. -/
def Good (c : Cs) : Prop := c.length = 12 ∧ ∀ x ∈ c, B64 x
def gC (c : Cs) (i : Nat) : Int := c.getD i 0
def onlyV (m : Int) (a x : Int) : Int := andV x m
def allV (a x : Int) : Int := x
def statV (a x : Int) : Int := orV (andV x 786722) 8589934592
def notV (a b : Int) : Int := bits .andNot .u64 a b
def ipV (a x : Int) : Int := orV (andV x 2) (notV a 2)
def satpV (a x : Int) : Int := if x / 1152921504606846976 = 0 ∨ x / 1152921504606846976 = 8 then x else a
abbrev Tr := List (Int × (Nat × (Int → Int → Int)))
def tR : Tr := [(384, 9, satpV), (324, 8, ipV), (323, 7, allV), (322, 6, allV), (321, 5, onlyV 18446744073709551614), (320, 4, allV), (262, 3, onlyV 7), (261, 2, onlyV 18446744073709551613), (260, 1, onlyV 546), (256, 0, statV)]
abbrev Tc := List (Int × ((Cs → Int → Int) × Int))
def tC : Tc := [(3074, fun c t => gC c 11, 4), (3073, fun c t => t, 2), (3072, fun c t => gC c 10, 1)]
def swapV (a b : Int) : Int := b
abbrev Ti := List (Int × ((Int → Int → Int) × Bool × Bool))
def tI : Ti := [(75, notV, false, true), (74, orV, false, true), (73, swapV, true, true), (72, notV, false, false), (71, orV, false, false), (70, swapV, true, false)]
def freshV : Cs := [8589934592, 0, 0, 0, 0, 0, 0, 0, 0, 0, 0, 0]
def readV (c : Cs) (n t : Int) : Int :=
  match A.look tR n with
  | some (j, _) => gC c j
  | none => match A.look tC n with
    | some (f, _) => f c t
    | none => 0
def writeV (c : Cs) (n x : Int) : Cs :=
  match A.look tR n with
  | some (j, f) => c.set j (f (gC c j) x)
  | none => c
def mayV (c : Cs) (n p : Int) (wr : Bool) : Bool :=
  match A.look tR n with
  | some _ => p == 1
  | none => match A.look tC n with
    | some (_, u) => !wr && (p == 1 || (p == 0 && !(andV (gC c 3) u == 0)))
    | none => false
def againV (c : Cs) (n : Int) : Cs := writeV c n (readV c n 0)
def fiveV (c : Cs) : Cs := againV (againV (againV (againV (againV c 256) 260) 261) 262) 321
def lateV (c : Cs) : Cs := writeV ((c.set 8 (andV (gC c 8) 34)).set 9 0) 384 (gC c 9)
def legalV (c : Cs) : Cs := lateV (fiveV c)
/-- Whether it writes. -/
def wrV (o r : Int) : Bool := match A.look tI o with | some (_, a, _) => a || !(r == 0) | none => !(r == 0)
def isI (o : Int) : Bool := (A.look tI o).isSome
def okV (c : Cs) (p o r n : Int) : Bool := isI o && mayV c n p (wrV o r)
def toldV (c : Cs) (p t o r n : Int) : Int := if okV c p o r n = true then readV c n t else 0
def yV (o r b : Int) : Int := match A.look tI o with | some (_, _, i) => if i = true then IntKind.u64.wrap r else b | none => b
def fV (o : Int) (a b : Int) : Int := match A.look tI o with | some (f, _, _) => f a b | none => 0
def doV (c : Cs) (p t o r n b : Int) : Cs :=
  if okV c p o r n = true ∧ wrV o r = true then writeV c n (fV o (readV c n t) (yV o r b)) else c

/-! ### Twelve numbers -/
theorem twelve {c : Cs} (h : c.length = 12) : ∃ a0 a1 a2 a3 a4 a5 a6 a7 a8 a9 a10 a11, c = [a0, a1, a2, a3, a4, a5, a6, a7, a8, a9, a10, a11] := by
  match c, h with
  | [a0, a1, a2, a3, a4, a5, a6, a7, a8, a9, a10, a11], _ => exact ⟨a0, a1, a2, a3, a4, a5, a6, a7, a8, a9, a10, a11, rfl⟩
theorem Good.get {c : Cs} (h : Good c) (i : Nat) : B64 (gC c i) := by
  unfold gC
  rw [List.getD_eq_getElem?_getD]
  cases e : c[i]? with
  | none => exact ⟨by decide, by decide⟩
  | some v => exact h.2 v (List.mem_of_getElem? e)
theorem Good.put {c : Cs} (h : Good c) (i : Nat) {x : Int} (hx : B64 x) : Good (c.set i x) :=
  ⟨by rw [List.length_set]; exact h.1, fun y hy => (List.mem_or_eq_of_mem_set hy).elim (h.2 y) (fun e => e ▸ hx)⟩
theorem not_nat (x y : Nat) (hx : x < 18446744073709551616) (hy : y < 18446744073709551616) : notV x y = ((x &&& (18446744073709551615 - y) : Nat) : Int) := u64_andNot_nat x y hx hy
theorem not_bd {a b : Int} (ha : B64 a) (hb : B64 b) : B64 (notV a b) := by
  obtain ⟨x, rfl, hx⟩ := ha.nat
  obtain ⟨y, rfl, hy⟩ := hb.nat
  rw [not_nat x y hx hy]
  have := Nat.and_lt_two_pow (n := 64) x (y := 18446744073709551615 - y) (by omega)
  unfold B64; omega
theorem fresh_good : Good freshV := ⟨rfl, by decide⟩
theorem lit_bd (n : Int) (h : 0 ≤ n ∧ n ≤ 18446744073709551615) : B64 n := h
theorem stat_bd {a x : Int} (hx : B64 x) : B64 (statV a x) := or_bd (and_bd hx (by decide)) (by decide)
theorem only_bd {m a x : Int} (hm : B64 m) (hx : B64 x) : B64 (onlyV m a x) := and_bd hx hm
theorem ip_bd {a x : Int} (ha : B64 a) (hx : B64 x) : B64 (ipV a x) := or_bd (and_bd hx (by decide)) (not_bd ha (by decide))
theorem satp_bd {a x : Int} (ha : B64 a) (hx : B64 x) : B64 (satpV a x) := by unfold satpV; split <;> assumption
theorem tR_bd {n : Int} {j : Nat} {f : Int → Int → Int} (h : A.look tR n = some (j, f)) : j < 12 ∧ ∀ a x, B64 a → B64 x → B64 (f a x) := by
  have key : ∀ (L : Tr), (∀ r ∈ L, r.2.1 < 12 ∧ ∀ a x, B64 a → B64 x → B64 (r.2.2 a x)) → A.look L n = some (j, f) → j < 12 ∧ ∀ a x, B64 a → B64 x → B64 (f a x) := by
    intro L
    induction L with
    | nil => intro _ h; simp [A.look] at h
    | cons r L ih =>
      intro hL h
      obtain ⟨k, j', f'⟩ := r
      rw [A.look] at h
      split at h
      · injection h with h; injection h with h1 h2; subst h1; subst h2; exact hL (k, j', f') (by simp)
      · exact ih (fun r hr => hL r (by simp [hr])) h
  refine key tR ?_ h
  intro r hr
  simp only [tR, List.mem_cons, List.not_mem_nil, or_false] at hr
  rcases hr with rfl | rfl | rfl | rfl | rfl | rfl | rfl | rfl | rfl | rfl
  · exact ⟨by decide, fun _ _ ha hx => satp_bd ha hx⟩
  · exact ⟨by decide, fun _ _ ha hx => ip_bd ha hx⟩
  · exact ⟨by decide, fun _ _ _ hx => hx⟩
  · exact ⟨by decide, fun _ _ _ hx => hx⟩
  · exact ⟨by decide, fun a _ _ hx => only_bd (a := a) (by decide) hx⟩
  · exact ⟨by decide, fun _ _ _ hx => hx⟩
  · exact ⟨by decide, fun a _ _ hx => only_bd (a := a) (by decide) hx⟩
  · exact ⟨by decide, fun a _ _ hx => only_bd (a := a) (by decide) hx⟩
  · exact ⟨by decide, fun a _ _ hx => only_bd (a := a) (by decide) hx⟩
  · exact ⟨by decide, fun a _ _ hx => stat_bd (a := a) hx⟩
theorem write_good {c : Cs} (h : Good c) (n : Int) {x : Int} (hx : B64 x) : Good (writeV c n x) := by
  unfold writeV
  split
  · rename_i j f e
    exact h.put j ((tR_bd e).2 _ _ (h.get j) hx)
  · exact h
theorem tC_bd {n : Int} {f : Cs → Int → Int} {u : Int} (h : A.look tC n = some (f, u)) : B64 u ∧ ∀ c t, Good c → B64 t → B64 (f c t) := by
  simp only [tC, A.look] at h
  split at h
  · injection h with h; injection h with h1 h2; subst h1; subst h2; exact ⟨by decide, fun c _ hc _ => hc.get 11⟩
  split at h
  · injection h with h; injection h with h1 h2; subst h1; subst h2; exact ⟨by decide, fun _ _ _ ht => ht⟩
  split at h
  · injection h with h; injection h with h1 h2; subst h1; subst h2; exact ⟨by decide, fun c _ hc _ => hc.get 10⟩
  · cases h
theorem read_bd {c : Cs} (h : Good c) (n : Int) {t : Int} (ht : B64 t) : B64 (readV c n t) := by
  unfold readV
  split
  · exact h.get _
  · split
    · rename_i f u e
      exact (tC_bd e).2 c t h ht
    · exact ⟨by decide, by decide⟩
theorem again_good {c : Cs} (h : Good c) (n : Int) : Good (againV c n) := write_good h n (read_bd h n ⟨by decide, by decide⟩)
theorem five_good {c : Cs} (h : Good c) : Good (fiveV c) := again_good (again_good (again_good (again_good (again_good h _) _) _) _) _
theorem late_good {c : Cs} (h : Good c) : Good (lateV c) := write_good ((h.put 8 (and_bd (h.get 8) (by decide))).put 9 ⟨by decide, by decide⟩) _ (h.get 9)
theorem legal_good {c : Cs} (h : Good c) : Good (legalV c) := late_good (five_good h)
theorem y_bd {o r b : Int} (hb : B64 b) : B64 (yV o r b) := by
  unfold yV
  split
  · split
    · exact u64_bd _
    · exact hb
  · exact hb
theorem f_bd {o a b : Int} (ha : B64 a) (hb : B64 b) : B64 (fV o a b) := by
  unfold fV
  split
  · rename_i f q i e
    simp only [tI, A.look] at e
    split at e
    · injection e with e; injection e with e1 e2; subst e1; exact not_bd ha hb
    split at e
    · injection e with e; injection e with e1 e2; subst e1; exact or_bd ha hb
    split at e
    · injection e with e; injection e with e1 e2; subst e1; exact hb
    split at e
    · injection e with e; injection e with e1 e2; subst e1; exact not_bd ha hb
    split at e
    · injection e with e; injection e with e1 e2; subst e1; exact or_bd ha hb
    split at e
    · injection e with e; injection e with e1 e2; subst e1; exact hb
    · cases e
  · exact ⟨by decide, by decide⟩
theorem do_good {c : Cs} (h : Good c) (p : Int) {t b : Int} (o r n : Int) (ht : B64 t) (hb : B64 b) : Good (doV c p t o r n b) := by
  unfold doV
  split
  · exact write_good h n (f_bd (read_bd h n ht) (y_bd hb))
  · exact h
theorem told_bd {c : Cs} (h : Good c) (p : Int) {t : Int} (o r n : Int) (ht : B64 t) : B64 (toldV c p t o r n) := by
  unfold toldV
  split
  · exact read_bd h n ht
  · exact ⟨by decide, by decide⟩
end Go.Proofs.Ytkfmcbhoendocaa.C
