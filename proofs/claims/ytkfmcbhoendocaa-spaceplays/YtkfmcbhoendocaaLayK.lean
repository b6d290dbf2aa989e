/-
  Plain mathematics of layer 11 (walk): where a walk ends, and its fault, as functions of whole numbers and of memory's bytes.
  Plain mathematics of layer 11, on: which entries end a walk.
  Plain mathematics of layer 11, on: who may, may; what a fault is; two addresses of one page.
  Conditions: each part's own: the arguments are numbers of their kinds; the tables hold what the program's text lays.
-/
import Derived.Test.YtkfmcbhoendocaaLayP
import Derived.Test.YtkfmcbhoendocaaLayR
section
namespace Go.Proofs.Ytkfmcbhoendocaa.K
open Go Go.RowKit W D A P M
set_option linter.unusedVariables false

/-- What a walk answers: an entry, its level, whether one on the way was global; whether there is a fault, its cause, its address. -/
structure Wr where
  pte : Int
  lvl : Int
  glob : Bool
  isf : Bool
  cause : Int
  val : Int
def causeV (k a b c : Int) : Int := if k = 0 then a else if k = 2 then c else b
def foundV (e l : Int) (g : Bool) : Wr := ⟨e, l, g, false, 0, 0⟩
def faultV (c va : Int) : Wr := ⟨0, 0, false, true, c, va⟩
def pfC (k : Int) : Int := causeV k 12 13 15
def naC (k : Int) : Int := causeV k 1 5 7
def pagedV (s : Int) : Bool := decide (s / 1152921504606846976 = 8)
def addrV (page va n : Int) : Int := page * 4096 + 8 * vpnV va n
/-- A walk from a page on, of so many levels. -/
def downV (bs : List Int) (va kind priv st : Int) : Nat → Int → Bool → Wr
  | 0, _, _ => faultV (pfC kind) va
  | n + 1, page, g =>
    if okB bs.length (addrV page va n) 8 = false then faultV (naC kind) va else
    if tableV (getV bs (addrV page va n) 8) = true then downV bs va kind priv st n (pageV (getV bs (addrV page va n) 8)) (g || bt (getV bs (addrV page va n) 8) 32) else
    if (alignedV (getV bs (addrV page va n) 8) n && mayV (getV bs (addrV page va n) 8) kind priv st) = true then foundV (getV bs (addrV page va n) 8) n (g || bt (getV bs (addrV page va n) 8) 32) else faultV (pfC kind) va
def walkV (bs : List Int) (sa st priv kind va : Int) : Wr :=
  if pagedV sa = true then (if canonV va = true then downV bs va kind priv st 3 (sa % 17592186044416) false else faultV (pfC kind) va) else foundV 0 0 false
def toV (bs : List Int) (sa st priv kind va : Int) : Int :=
  if pagedV sa = true then (if (walkV bs sa st priv kind va).isf = true then 0 else atV (walkV bs sa st priv kind va).pte va (walkV bs sa st priv kind va).lvl) else va

theorem cause_bd {k a b c : Int} (ha : 0 ≤ a ∧ a ≤ 100) (hb : 0 ≤ b ∧ b ≤ 100) (hc : 0 ≤ c ∧ c ≤ 100) : 0 ≤ causeV k a b c ∧ causeV k a b c ≤ 100 := by
  unfold causeV
  split
  · exact ha
  · split
    · exact hc
    · exact hb
theorem a32 (e : Int) (he : B64 e) : bits .and .u64 e 32 = e / 32 % 2 * 32 := one_bit 5 32 rfl (by omega) e he
theorem addr_bd {page va n : Int} (hp : 0 ≤ page ∧ page ≤ 17592186044415) (hv : B64 va) : B64 (addrV page va n) := by
  have := vpn_bd (n := n) hv
  unfold B64 addrV
  omega
/-- An answer is in its bounds. -/
def Fits (r : Wr) : Prop := B64 r.pte ∧ 0 ≤ r.lvl ∧ r.lvl ≤ 2 ∧ 0 ≤ r.cause ∧ r.cause ≤ 100 ∧ B64 r.val
theorem fits_fault {c va : Int} (hc : 0 ≤ c ∧ c ≤ 100) (hv : B64 va) : Fits (faultV c va) := by
  unfold Fits faultV B64 at *
  simp only
  omega
theorem fits_found {e l : Int} {g : Bool} (he : B64 e) (hl : 0 ≤ l ∧ l ≤ 2) : Fits (foundV e l g) := by
  unfold Fits foundV B64 at *
  simp only
  omega
theorem get_64 {bs : List Int} (h : Byt bs) (a : Int) : B64 (getV bs a 8) := by
  have := getV_bd h a 8
  unfold B64
  exact this
theorem fits_down {bs : List Int} (h : Byt bs) {va kind priv st : Int} (hv : B64 va) : ∀ (n : Nat) (page : Int) (g : Bool), n ≤ 3 → Fits (downV bs va kind priv st n page g)
  | 0, _, _, _ => fits_fault (cause_bd (by omega) (by omega) (by omega)) hv
  | n + 1, page, g, hn => by
    unfold downV
    split
    · exact fits_fault (cause_bd (by omega) (by omega) (by omega)) hv
    · split
      · exact fits_down h hv n _ _ (by omega)
      · split
        · exact fits_found (get_64 h _) (by omega)
        · exact fits_fault (cause_bd (by omega) (by omega) (by omega)) hv
theorem fits_walk {bs : List Int} (h : Byt bs) {sa st priv kind va : Int} (hv : B64 va) : Fits (walkV bs sa st priv kind va) := by
  unfold walkV
  split
  · split
    · exact fits_down h hv _ _ _ (by omega)
    · exact fits_fault (cause_bd (by omega) (by omega) (by omega)) hv
  · exact fits_found (by unfold B64; omega) (by omega)
end Go.Proofs.Ytkfmcbhoendocaa.K
end

section
namespace Go.Proofs.Ytkfmcbhoendocaa.K
open Go Go.RowKit W D A P M
set_option linter.unusedVariables false
theorem leaf_table (e : Int) (h : leafV e = true) : tableV e = false := by
  unfold leafV at h
  unfold tableV
  cases h2 : bt e 2 <;> cases h8 : bt e 8 <;> simp_all
theorem not_leaf_may (e kind priv st : Int) (h : leafV e = false) : mayV e kind priv st = false := by
  unfold mayV
  rw [h]
  simp
theorem may_leaf {e kind priv st : Int} (h : mayV e kind priv st = true) : leafV e = true := by
  cases hl : leafV e
  · rw [not_leaf_may e kind priv st hl] at h; exact absurd h (by simp)
  · rfl
/-- Without a fault there is no cause; beside one there is no leaf. -/
def Calm (r : Wr) : Prop := (r.isf = false → r.cause = 0 ∧ r.val = 0) ∧ (r.isf = true → r.pte = 0 ∧ r.lvl = 0 ∧ r.glob = false)
theorem calm_fault (c va : Int) : Calm (faultV c va) := ⟨fun h => absurd h (by simp [faultV]), fun _ => ⟨rfl, rfl, rfl⟩⟩
theorem calm_found (e l : Int) (g : Bool) : Calm (foundV e l g) := ⟨fun _ => ⟨rfl, rfl⟩, fun h => absurd h (by simp [foundV])⟩
theorem calm_down (bs : List Int) (va kind priv st : Int) : ∀ (n : Nat) (page : Int) (g : Bool), Calm (downV bs va kind priv st n page g)
  | 0, _, _ => calm_fault _ _
  | n + 1, page, g => by
    unfold downV
    split
    · exact calm_fault _ _
    · split
      · exact calm_down bs va kind priv st n _ _
      · split
        · exact calm_found _ _ _
        · exact calm_fault _ _
theorem calm_walk (bs : List Int) (sa st priv kind va : Int) : Calm (walkV bs sa st priv kind va) := by
  unfold walkV
  split
  · split
    · exact calm_down _ _ _ _ _ _ _ _
    · exact calm_fault _ _
  · exact calm_found _ _ _
end Go.Proofs.Ytkfmcbhoendocaa.K
end

section
namespace Go.Proofs.Ytkfmcbhoendocaa.K
open Go Go.RowKit W D A P M
set_option linter.unusedVariables false

theorem store_load {e p s : Int} (h : mayV e 2 p s = true) : mayV e 1 p s = true := by
  unfold mayV at *
  simp only [Bool.and_eq_true] at h ⊢
  obtain ⟨⟨⟨hl, ha⟩, hk⟩, hp⟩ := h
  refine ⟨⟨⟨hl, ha⟩, ?_⟩, ?_⟩
  · have hs := store_bits hk
    have hv := leaf_valid hl
    unfold validV at hv
    simp only [Bool.and_eq_true, Bool.or_eq_true, Bool.not_eq_true'] at hv
    have h2 : bt e 2 = true := by
      rcases hv.1.2 with h | h
      · rw [hs.1] at h; exact absurd h (by simp)
      · exact h
    show (if bt s 524288 = true then bt e 2 || bt e 8 else bt e 2) = true
    rw [h2]
    simp
  · exact hp
theorem more_any {e p s s' : Int} (h : mayV e 1 p s = true) (h1 : bt s' 262144 = true) (h2 : bt s' 524288 = true) : mayV e 1 p s' = true := by
  unfold mayV at *
  simp only [Bool.and_eq_true] at h ⊢
  obtain ⟨⟨⟨hl, ha⟩, hk⟩, hp⟩ := h
  refine ⟨⟨⟨hl, ha⟩, ?_⟩, ?_⟩
  · show (if bt s' 524288 = true then bt e 2 || bt e 8 else bt e 2) = true
    rw [if_pos h2]
    replace hk : (if bt s 524288 = true then bt e 2 || bt e 8 else bt e 2) = true := hk
    split at hk
    · exact hk
    · rw [hk]; rfl
  · unfold byPrivV at *
    by_cases p0 : p = 0
    · rw [if_pos p0] at *; exact hp
    · rw [if_neg p0] at *
      by_cases p1 : p = 1
      · rw [if_pos p1, h1]
        simp
      · rw [if_neg p1] at hp; exact absurd hp (by simp)
/-- Who may go on by one kind and status may by another, if each entry lets it. -/
theorem down_mono {bs : List Int} {va k1 k2 p s1 s2 : Int} (h : ∀ e, mayV e k1 p s1 = true → mayV e k2 p s2 = true) : ∀ (n : Nat) (page : Int) (g : Bool),
    (downV bs va k1 p s1 n page g).isf = false → downV bs va k2 p s2 n page g = downV bs va k1 p s1 n page g
  | 0, _, _, hf => absurd hf (by simp [downV, faultV])
  | n + 1, page, g, hf => by
    unfold downV at hf ⊢
    split
    · rename_i h1; rw [if_pos h1] at hf; exact absurd hf (by simp [faultV])
    · rename_i h1
      rw [if_neg h1] at hf
      split
      · rename_i h2; rw [if_pos h2] at hf; exact down_mono h n _ _ hf
      · rename_i h2
        rw [if_neg h2] at hf
        cases hm : mayV (getV bs (addrV page va n) 8) k1 p s1
        · rw [hm, Bool.and_false, if_neg (by simp)] at hf; exact absurd hf (by simp [faultV])
        · rw [hm] at hf
          rw [h _ hm]
          cases hal : alignedV (getV bs (addrV page va n) 8) n
          · rw [hal, Bool.false_and, if_neg (by simp)] at hf; exact absurd hf (by simp [faultV])
          · rfl
theorem walk_mono {bs : List Int} {sa va k1 k2 p s1 s2 : Int} (h : ∀ e, mayV e k1 p s1 = true → mayV e k2 p s2 = true) (hf : (walkV bs sa s1 p k1 va).isf = false) :
    walkV bs sa s2 p k2 va = walkV bs sa s1 p k1 va := by
  unfold walkV at hf ⊢
  split
  · rename_i h1
    rw [if_pos h1] at hf
    split
    · rename_i h2; rw [if_pos h2] at hf; exact down_mono h _ _ _ hf
    · rename_i h2; rw [if_neg h2] at hf; exact absurd hf (by simp [faultV])
  · rfl
theorem to_same {bs : List Int} {sa va k1 k2 p s1 s2 : Int} (h : walkV bs sa s2 p k2 va = walkV bs sa s1 p k1 va) : toV bs sa s2 p k2 va = toV bs sa s1 p k1 va := by
  unfold toV; rw [h]
/-- What a fault is of. -/
def Ofs (r : Wr) (k va : Int) : Prop := r.isf = true → (r.cause = pfC k ∨ r.cause = naC k) ∧ r.val = va
theorem down_of (bs : List Int) (va k p s : Int) : ∀ (n : Nat) (page : Int) (g : Bool), Ofs (downV bs va k p s n page g) k va
  | 0, _, _ => fun _ => ⟨.inl rfl, rfl⟩
  | n + 1, page, g => by
    unfold downV
    split
    · exact fun _ => ⟨.inr rfl, rfl⟩
    · split
      · exact down_of bs va k p s n _ _
      · split
        · exact fun h => absurd h (by simp [foundV])
        · exact fun _ => ⟨.inl rfl, rfl⟩
theorem walk_of (bs : List Int) (sa va k p s : Int) : Ofs (walkV bs sa s p k va) k va := by
  unfold walkV
  split
  · split
    · exact down_of _ _ _ _ _ _ _ _
    · exact fun _ => ⟨.inl rfl, rfl⟩
  · exact fun h => absurd h (by simp [foundV])
theorem walk_paged {bs : List Int} {sa va k p s : Int} (h : (walkV bs sa s p k va).isf = true) : pagedV sa = true := by
  unfold walkV at h
  split at h
  · rename_i h1; exact h1
  · exact absurd h (by simp [foundV])
/-- What is found lets what was asked for. -/
theorem down_may {bs : List Int} {va k p s : Int} : ∀ (n : Nat) (page : Int) (g : Bool), n ≤ 3 → (downV bs va k p s n page g).isf = false →
    mayV (downV bs va k p s n page g).pte k p s = true ∧ alignedV (downV bs va k p s n page g).pte (downV bs va k p s n page g).lvl = true
  | 0, _, _, _, hf => absurd hf (by simp [downV, faultV])
  | n + 1, page, g, hn, hf => by
    unfold downV at hf ⊢
    split
    · rename_i h1; rw [if_pos h1] at hf; exact absurd hf (by simp [faultV])
    · rename_i h1
      rw [if_neg h1] at hf
      split
      · rename_i h2; rw [if_pos h2] at hf; exact down_may n _ _ (by omega) hf
      · rename_i h2
        rw [if_neg h2] at hf
        split
        · rename_i h3
          simp only [Bool.and_eq_true] at h3
          exact ⟨h3.2, h3.1⟩
        · rename_i h3; rw [if_neg h3] at hf; exact absurd hf (by simp [faultV])
theorem walk_may {bs : List Int} {sa va k p s : Int} (hp : pagedV sa = true) (hf : (walkV bs sa s p k va).isf = false) :
    mayV (walkV bs sa s p k va).pte k p s = true ∧ alignedV (walkV bs sa s p k va).pte (walkV bs sa s p k va).lvl = true := by
  unfold walkV at hf ⊢
  rw [if_pos hp] at hf ⊢
  split
  · rename_i h2; rw [if_pos h2] at hf; exact down_may _ _ _ (by omega) hf
  · rename_i h2; rw [if_neg h2] at hf; exact absurd hf (by simp [faultV])
theorem known_ok {n : Int} (h : 0 ≤ n ∧ n ≤ 2) : knownV n = true := by unfold knownV; simpa using h
/-! ### Two addresses of one page -/
theorem sz_pos (n : Int) : szV n = 4096 ∨ szV n = 2097152 ∨ szV n = 1073741824 := by
  unfold szV
  by_cases h0 : n = 0 <;> by_cases h1 : n = 1 <;> simp [h0, h1]
theorem vpn_page {v u : Int} (h : v / 4096 = u / 4096) (n : Int) : vpnV v n = vpnV u n := by
  unfold vpnV
  split
  · rcases sz_pos n with e | e | e <;> rw [e] <;> omega
  · rfl
theorem canon_page {v u : Int} (h : v / 4096 = u / 4096) : canonV v = canonV u := by
  have : v / 274877906944 = u / 274877906944 := by omega
  unfold canonV
  rw [this]
/-- Two answers that are the same but for the address of a fault. -/
def Like (r q : Wr) : Prop := r.isf = q.isf ∧ r.cause = q.cause ∧ r.pte = q.pte ∧ r.lvl = q.lvl
theorem down_page {bs : List Int} {v u k p s : Int} (h : v / 4096 = u / 4096) : ∀ (n : Nat) (page : Int) (g : Bool), Like (downV bs v k p s n page g) (downV bs u k p s n page g)
  | 0, _, _ => ⟨rfl, rfl, rfl, rfl⟩
  | n + 1, page, g => by
    have ha : addrV page v n = addrV page u n := by unfold addrV; rw [vpn_page h]
    unfold downV
    rw [ha]
    split
    · exact ⟨rfl, rfl, rfl, rfl⟩
    · split
      · exact down_page h n _ _
      · split
        · exact ⟨rfl, rfl, rfl, rfl⟩
        · exact ⟨rfl, rfl, rfl, rfl⟩
theorem walk_page {bs : List Int} {sa v u k p s : Int} (h : v / 4096 = u / 4096) : Like (walkV bs sa s p k v) (walkV bs sa s p k u) := by
  unfold walkV
  rw [canon_page h]
  split
  · split
    · exact down_page h _ _ _
    · exact ⟨rfl, rfl, rfl, rfl⟩
  · exact ⟨rfl, rfl, rfl, rfl⟩
theorem at_page {e v u n : Int} (h : v / 4096 = u / 4096) (hn : 0 ≤ n ∧ n ≤ 2) : atV e v n - v = atV e u n - u := by
  unfold atV
  rw [if_pos (known_ok hn), if_pos (known_ok hn)]
  rcases sz_pos n with e' | e' | e' <;> rw [e'] <;> omega
theorem to_page {bs : List Int} {sa v u k p s : Int} (h : v / 4096 = u / 4096) (hb : Byt bs) (hv : B64 v) (hf : (walkV bs sa s p k v).isf = false) :
    toV bs sa s p k v - v = toV bs sa s p k u - u := by
  have hl := walk_page (bs := bs) (sa := sa) (k := k) (p := p) (s := s) h
  have hx := fits_walk hb (sa := sa) (st := s) (priv := p) (kind := k) hv
  unfold toV
  rw [← hl.1, ← hl.2.2.1, ← hl.2.2.2, hf]
  split
  · simp only [Bool.false_eq_true, if_false]
    exact at_page h ⟨hx.2.1, hx.2.2.1⟩
  · omega
end Go.Proofs.Ytkfmcbhoendocaa.K
end
