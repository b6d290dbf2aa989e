/-
  Plain mathematics of layer 11 (walk): where a walk ends, and its fault, as functions of whole numbers and of memory's bytes.
  Conditions: none; nothing here speaks of the program.
-/
import Derived.Test.YtecpghenjannhaaPteV
import Derived.Test.YtecpghenjannhaaRamV
namespace Go.Proofs.Ytecpghenjannhaa.K
open Go Go.RowKit W D A P M
set_option linter.unusedVariables false

/-- What a walk answers: an entry, its level, whether one on the way was global; whether there is a fault, its cause, its address. -/
structure Wr where
  pte : Int
  lvl : Int
  glob : Bool
  isf : Bool
  cause : Int
  val : Int
def causeV (k a b c : Int) : Int := if k = 0 then a else if k = 2 then c else b
def foundV (e l : Int) (g : Bool) : Wr := ⟨e, l, g, false, 0, 0⟩
def faultV (c va : Int) : Wr := ⟨0, 0, false, true, c, va⟩
def pfC (k : Int) : Int := causeV k 12 13 15
def naC (k : Int) : Int := causeV k 1 5 7
def pagedV (s : Int) : Bool := decide (s / 1152921504606846976 = 8)
def addrV (page va n : Int) : Int := page * 4096 + 8 * vpnV va n
/-- A walk from a page on, of so many levels. -/
def downV (bs : List Int) (va kind priv st : Int) : Nat → Int → Bool → Wr
  | 0, _, _ => faultV (pfC kind) va
  | n + 1, page, g =>
    if okB bs.length (addrV page va n) 8 = false then faultV (naC kind) va else
    if tableV (getV bs (addrV page va n) 8) = true then downV bs va kind priv st n (pageV (getV bs (addrV page va n) 8)) (g || bt (getV bs (addrV page va n) 8) 32) else
    if (alignedV (getV bs (addrV page va n) 8) n && mayV (getV bs (addrV page va n) 8) kind priv st) = true then foundV (getV bs (addrV page va n) 8) n (g || bt (getV bs (addrV page va n) 8) 32) else faultV (pfC kind) va
def walkV (bs : List Int) (sa st priv kind va : Int) : Wr :=
  if pagedV sa = true then (if canonV va = true then downV bs va kind priv st 3 (sa % 17592186044416) false else faultV (pfC kind) va) else foundV 0 0 false
def toV (bs : List Int) (sa st priv kind va : Int) : Int :=
  if pagedV sa = true then (if (walkV bs sa st priv kind va).isf = true then 0 else atV (walkV bs sa st priv kind va).pte va (walkV bs sa st priv kind va).lvl) else va

theorem cause_bd {k a b c : Int} (ha : 0 ≤ a ∧ a ≤ 100) (hb : 0 ≤ b ∧ b ≤ 100) (hc : 0 ≤ c ∧ c ≤ 100) : 0 ≤ causeV k a b c ∧ causeV k a b c ≤ 100 := by
  unfold causeV
  split
  · exact ha
  · split
    · exact hc
    · exact hb
theorem a32 (e : Int) (he : B64 e) : bits .and .u64 e 32 = e / 32 % 2 * 32 := one_bit 5 32 rfl (by omega) e he
theorem addr_bd {page va n : Int} (hp : 0 ≤ page ∧ page ≤ 17592186044415) (hv : B64 va) : B64 (addrV page va n) := by
  have := vpn_bd (n := n) hv
  unfold B64 addrV
  omega
/-- An answer is in its bounds. -/
def Fits (r : Wr) : Prop := B64 r.pte ∧ 0 ≤ r.lvl ∧ r.lvl ≤ 2 ∧ 0 ≤ r.cause ∧ r.cause ≤ 100 ∧ B64 r.val
theorem fits_fault {c va : Int} (hc : 0 ≤ c ∧ c ≤ 100) (hv : B64 va) : Fits (faultV c va) := by
  unfold Fits faultV B64 at *
  simp only
  omega
theorem fits_found {e l : Int} {g : Bool} (he : B64 e) (hl : 0 ≤ l ∧ l ≤ 2) : Fits (foundV e l g) := by
  unfold Fits foundV B64 at *
  simp only
  omega
theorem get_64 {bs : List Int} (h : Byt bs) (a : Int) : B64 (getV bs a 8) := by
  have := getV_bd h a 8
  unfold B64
  exact this
theorem fits_down {bs : List Int} (h : Byt bs) {va kind priv st : Int} (hv : B64 va) : ∀ (n : Nat) (page : Int) (g : Bool), n ≤ 3 → Fits (downV bs va kind priv st n page g)
  | 0, _, _, _ => fits_fault (cause_bd (by omega) (by omega) (by omega)) hv
  | n + 1, page, g, hn => by
    unfold downV
    split
    · exact fits_fault (cause_bd (by omega) (by omega) (by omega)) hv
    · split
      · exact fits_down h hv n _ _ (by omega)
      · split
        · exact fits_found (get_64 h _) (by omega)
        · exact fits_fault (cause_bd (by omega) (by omega) (by omega)) hv
theorem fits_walk {bs : List Int} (h : Byt bs) {sa st priv kind va : Int} (hv : B64 va) : Fits (walkV bs sa st priv kind va) := by
  unfold walkV
  split
  · split
    · exact fits_down h hv _ _ _ (by omega)
    · exact fits_fault (cause_bd (by omega) (by omega) (by omega)) hv
  · exact fits_found (by unfold B64; omega) (by omega)
end Go.Proofs.Ytecpghenjannhaa.K
