/-
  Plain mathematics of layer 12 (tlb): leaves that are kept, what they cover, a row of them.
  Conditions: none; nothing here speaks of the program.
-/
import Derived.Test.YtkfmcbhoendocaaLayK
import Derived.Test.YtkfmcbhoendocaaLayW
namespace Go.Proofs.Ytkfmcbhoendocaa.T
open Go Go.RowKit W D A P M
set_option linter.unusedVariables false

/-- A leaf that is kept: its address, its asid, its entry, its level, whether it is global. -/
structure Lf where
  va : Int
  asid : Int
  pte : Int
  lev : Int
  glob : Bool
def Fine (k : Lf) : Prop := B64 k.va ∧ B64 k.asid ∧ B64 k.pte ∧ 0 ≤ k.lev ∧ k.lev ≤ 2
def covT (k : Lf) (a : Int) : Bool := decide (k.va / szV k.lev = a / szV k.lev)
def keyT (a s : Int) (k : Lf) : Bool := covT k a && (k.glob || decide (k.asid = s))
def findT (L : List Lf) (a s : Int) : Option Lf := L.find? (keyT a s)
def putT (most : Nat) (L : List Lf) (k : Lf) : List Lf := if most = 0 then L else (if L.length = most then L.tail else L) ++ [k]
def dropT (all : Bool) (a : Int) (every : Bool) (s : Int) (k : Lf) : Bool := (all || covT k a) && (every || (decide (k.asid = s) && !k.glob))
def flushT (L : List Lf) (all : Bool) (a : Int) (every : Bool) (s : Int) : List Lf := L.filter fun k => !dropT all a every s k
def mostV (n : Int) : Nat := (min (max n 0) 8).toNat
theorem most_le (n : Int) : mostV n ≤ 8 := by unfold mostV; omega

/-! ### What To answers -/
def asidV (sa : Int) : Int := sa / 17592186044416 % 65536
def hitV (L : List Lf) (sa st priv kind va : Int) : Option Lf := if (K.pagedV sa && canonV va) = true then (findT L va (asidV sa)).filter fun k => mayV k.pte kind priv st else none
def toRV (bs : List Int) (L : List Lf) (sa st priv kind va : Int) : Int := match hitV L sa st priv kind va with | some k => atV k.pte va k.lev | none => K.toV bs sa st priv kind va
def toFV (bs : List Int) (L : List Lf) (sa st priv kind va : Int) : K.Wr := match hitV L sa st priv kind va with | some _ => K.foundV 0 0 false | none => K.walkV bs sa st priv kind va
def missedV (L : List Lf) (sa st priv kind va : Int) : Bool := K.pagedV sa && canonV va && (hitV L sa st priv kind va).isNone
def lfV (r : K.Wr) (va s : Int) : Lf := ⟨va, s, r.pte, r.lvl, r.glob⟩
def toLV (bs : List Int) (most : Nat) (L : List Lf) (sa st priv kind va : Int) : List Lf :=
  if (missedV L sa st priv kind va && !(K.walkV bs sa st priv kind va).isf) = true then putT most L (lfV (K.walkV bs sa st priv kind va) va (asidV sa)) else L
def missT (n : Int) : Int := (n + 1) % 18446744073709551616
def toNV (L : List Lf) (n sa st priv kind va : Int) : Int := if missedV L sa st priv kind va = true then missT n else n
theorem hit_mem {L : List Lf} {sa st priv kind va : Int} {k : Lf} (h : hitV L sa st priv kind va = some k) : k ∈ L ∧ keyT va (asidV sa) k = true ∧ mayV k.pte kind priv st = true ∧ K.pagedV sa = true ∧ canonV va = true := by
  unfold hitV at h
  split at h
  · rename_i hp
    rw [Bool.and_eq_true] at hp
    rw [Option.filter_eq_some_iff] at h
    exact ⟨List.mem_of_find?_eq_some h.1, List.find?_some h.1, h.2, hp.1, hp.2⟩
  · cases h

/-! ### The cells of a row -/
def cellsT (k : Lf) : List Value := [.int .u64 k.va, .int .u64 k.asid, .int .u64 k.pte, .int .i64 k.lev, .bool k.glob]
def vT (k : Lf) : Value := .agg #[.int .u64 k.va, .int .u64 k.asid, .int .u64 k.pte, .int .i64 k.lev, .bool k.glob]
def flat : List Lf → List Value
  | [] => []
  | k :: L => cellsT k ++ flat L
theorem flat_length : ∀ L : List Lf, (flat L).length = L.length * 5
  | [] => rfl
  | k :: L => by rw [flat, List.length_append, flat_length L, List.length_cons]; show 5 + _ = _; omega
theorem flat_append : ∀ L M : List Lf, flat (L ++ M) = flat L ++ flat M
  | [], M => rfl
  | k :: L, M => by rw [List.cons_append, flat, flat, flat_append L M, List.append_assoc]
theorem flat_take : ∀ (L : List Lf) (i : Nat), (flat L).take (i * 5) = flat (L.take i)
  | [], i => by simp [flat]
  | k :: L, 0 => by simp [flat]
  | k :: L, i + 1 => by
    rw [flat, List.take_succ_cons, flat, ← flat_take L i, show (i + 1) * 5 = (cellsT k).length + i * 5 by show _ = 5 + _; omega, List.take_length_add_append]
theorem flat_drop : ∀ (L : List Lf) (i : Nat), (flat L).drop (i * 5) = flat (L.drop i)
  | [], i => by simp [flat]
  | k :: L, 0 => by simp
  | k :: L, i + 1 => by
    rw [flat, List.drop_succ_cons, ← flat_drop L i, show (i + 1) * 5 = (cellsT k).length + i * 5 by show _ = 5 + _; omega, List.drop_length_add_append]
theorem flat_get {L : List Lf} {i : Nat} {k : Lf} (h : L[i]? = some k) {c : Nat} (hc : c < 5) : (flat L)[i * 5 + c]? = (cellsT k)[c]? := by
  have hd : L.drop i = k :: L.drop (i + 1) := by
    have hi := (List.getElem?_eq_some_iff.1 h).1
    rw [List.drop_eq_getElem_cons hi]
    rw [List.getElem?_eq_getElem hi] at h
    injection h with h
    rw [h]
  rw [← List.getElem?_drop, flat_drop, hd, flat, List.getElem?_append_left (by show c < 5; exact hc)]
theorem flat_one (L : List Lf) : ∀ v ∈ flat L, v.oneCell' = true := by
  induction L with
  | nil => intro v h; cases h
  | cons k L ih =>
    intro v h
    rw [flat, List.mem_append] at h
    rcases h with h | h
    · simp only [cellsT, List.mem_cons, List.not_mem_nil, or_false] at h
      rcases h with rfl | rfl | rfl | rfl | rfl <;> rfl
    · exact ih v h

/-! ### Bits -/
theorem xor_shr (x y : Nat) (s : Nat) : ((x ^^^ y) / 2 ^ s = 0) ↔ x / 2 ^ s = y / 2 ^ s := by
  rw [← Nat.shiftRight_eq_div_pow, ← Nat.shiftRight_eq_div_pow, ← Nat.shiftRight_eq_div_pow, Nat.shiftRight_xor_distrib]
  constructor
  · intro h
    have k : (x >>> s ^^^ y >>> s) ^^^ y >>> s = y >>> s := by rw [h, Nat.zero_xor]
    rwa [Nat.xor_assoc, Nat.xor_self, Nat.xor_zero] at k
  · intro h
    rw [h, Nat.xor_self]
theorem cov_bits {a b : Int} (ha : B64 a) (hb : B64 b) (s : Nat) : (bits .xor .u64 a b / 2 ^ s = 0) ↔ a / 2 ^ s = b / 2 ^ s := by
  unfold B64 at ha hb
  obtain ⟨x, rfl⟩ : ∃ x : Nat, a = x := ⟨a.toNat, by omega⟩
  obtain ⟨y, rfl⟩ : ∃ y : Nat, b = y := ⟨b.toNat, by omega⟩
  have h := xorV_nat x y (by omega) (by omega)
  unfold xorV at h
  rw [h]
  have := xor_shr x y s
  rw [show ((x ^^^ y : Nat) : Int) / 2 ^ s = (((x ^^^ y) / 2 ^ s : Nat) : Int) by norm_cast, show ((x : Nat) : Int) / 2 ^ s = ((x / 2 ^ s : Nat) : Int) by norm_cast, show ((y : Nat) : Int) / 2 ^ s = ((y / 2 ^ s : Nat) : Int) by norm_cast]
  omega
theorem xor_64 {a b : Int} (ha : B64 a) (hb : B64 b) : B64 (bits .xor .u64 a b) := by
  unfold B64 at ha hb
  obtain ⟨x, rfl⟩ : ∃ x : Nat, a = x := ⟨a.toNat, by omega⟩
  obtain ⟨y, rfl⟩ : ∃ y : Nat, b = y := ⟨b.toNat, by omega⟩
  have h := xorV_nat x y (by omega) (by omega)
  unfold xorV at h
  rw [h]
  have := Nat.xor_lt_two_pow (x := x) (y := y) (n := 64) (by omega) (by omega)
  unfold B64
  omega

/-! ### A row is thinned out -/
theorem idx_none {L : List Lf} {q : Lf → Bool} (h : L.findIdx? q = none) : L.filter (fun k => !q k) = L := by
  rw [List.filter_eq_self]
  intro k hk
  rw [List.findIdx?_eq_none_iff] at h
  simpa using h k hk
end Go.Proofs.Ytkfmcbhoendocaa.T
