/-
  Plain mathematics of layer 14 (trap): what registers become by a trap, and on the way back; which interrupt is taken; bits of a number, told one by one.
  Conditions: none; nothing here speaks of the program.
-/
import Derived.Test.YtkfmcbhoendocaaDoorCsrN
namespace Go.Proofs.YtkfmcbhoendocaaDoor.J
open Go Go.RowKit W D A C
set_option linter.unusedVariables false

/-- A number with bits set, or not. -/
def withV (x b : Int) (s : Bool) : Int := if s = true then orV x b else notV x b
def onV (x b : Int) : Bool := !(andV x b == 0)
def entV (s p : Int) : Int := withV (withV (withV s 32 (onV s 2)) 2 false) 256 (p == 1)
def leftV (s : Int) : Int := withV (withV (withV s 2 (onV s 32)) 32 true) 256 false
def causeV (i : Bool) (k : Int) : Int := if i = true then IntKind.u64.wrap (IntKind.u64.wrap k + 9223372036854775808) else IntKind.u64.wrap k
def handV (t : Int) (i : Bool) (k : Int) : Int := if (i && onV t 1) = true then IntKind.u64.wrap (notV t 3 + IntKind.u64.wrap (4 * IntKind.u64.wrap k)) else notV t 3
def epcV (x : Int) : Int := andV x 18446744073709551614
def enterV (c : Cs) (p pc : Int) (i : Bool) (k v : Int) : Cs := (((c.set 5 (epcV pc)).set 6 (causeV i k)).set 7 v).set 0 (entV (gC c 0) p)
def backV (c : Cs) : Cs := c.set 0 (leftV (gC c 0))
def privV (s : Int) : Int := if onV s 256 = true then 1 else 0
def letsV (s p : Int) : Bool := if p = 0 then true else if p = 1 then onV s 2 else false
def bothV (c : Cs) : Int := andV (gC c 8) (gC c 1)
def firstV (b : Int) : Int := if onV b 2 = true then 1 else if onV b 32 = true then 5 else 0
def anyV (b : Int) : Bool := onV b 2 || onV b 32
def takeV (s b p : Int) : Int := if letsV s p = true then firstV b else 0
def takesV (s b p : Int) : Bool := letsV s p && anyV b

theorem with_bd {x b : Int} (hx : B64 x) (hb : B64 b) (s : Bool) : B64 (withV x b s) := by
  unfold withV; split
  · exact or_bd hx hb
  · exact not_bd hx hb
theorem ent_bd {s : Int} (hs : B64 s) (p : Int) : B64 (entV s p) := with_bd (with_bd (with_bd hs (by decide) _) (by decide) _) (by decide) _
theorem left_bd {s : Int} (hs : B64 s) : B64 (leftV s) := with_bd (with_bd (with_bd hs (by decide) _) (by decide) _) (by decide) _
theorem cause_bd (i : Bool) (k : Int) : B64 (causeV i k) := by unfold causeV; split <;> exact u64_bd _
theorem hand_bd {t : Int} (ht : B64 t) (i : Bool) (k : Int) : B64 (handV t i k) := by
  unfold handV; split
  · exact u64_bd _
  · exact not_bd ht (by decide)
theorem epc_bd {x : Int} (hx : B64 x) : B64 (epcV x) := and_bd hx (by decide)
theorem enter_good {c : Cs} (h : C.Good c) (p : Int) {pc : Int} (hp : B64 pc) (i : Bool) (k : Int) {v : Int} (hv : B64 v) : C.Good (enterV c p pc i k v) := by
  unfold enterV
  exact (((h.put 5 (epc_bd hp)).put 6 (cause_bd i k)).put 7 hv).put 0 (ent_bd (h.get 0) p)
theorem back_good {c : Cs} (h : C.Good c) : C.Good (backV c) := h.put 0 (left_bd (h.get 0))
theorem enter_12 (a0 a1 a2 a3 a4 a5 a6 a7 a8 a9 a10 a11 p pc : Int) (i : Bool) (k v : Int) : enterV [a0, a1, a2, a3, a4, a5, a6, a7, a8, a9, a10, a11] p pc i k v = [entV a0 p, a1, a2, a3, a4, epcV pc, causeV i k, v, a8, a9, a10, a11] := rfl
theorem back_12 (a0 a1 a2 a3 a4 a5 a6 a7 a8 a9 a10 a11 : Int) : backV [a0, a1, a2, a3, a4, a5, a6, a7, a8, a9, a10, a11] = [leftV a0, a1, a2, a3, a4, a5, a6, a7, a8, a9, a10, a11] := rfl
/-- As the program writes it. -/
theorem enter_writes (c : Cs) (p pc : Int) (i : Bool) (k v : Int) (h : c.length = 12) :
    (writeV (writeV (writeV c 321 pc) 322 (causeV i k)) 323 v).set 0 (entV (gC (writeV (writeV (writeV c 321 pc) 322 (causeV i k)) 323 v) 0) p) = enterV c p pc i k v := by
  obtain ⟨a0, a1, a2, a3, a4, a5, a6, a7, a8, a9, a10, a11, rfl⟩ := twelve h
  rfl

/-! ### Bit by bit -/
/-- Bit j of a number. -/
def tb (x : Int) (j : Nat) : Bool := x.toNat.testBit j
theorem tb_eq {x y : Int} (hx : B64 x) (hy : B64 y) (h : ∀ j, tb x j = tb y j) : x = y := by
  obtain ⟨x, rfl, kx⟩ := hx.nat
  obtain ⟨y, rfl, ky⟩ := hy.nat
  have : x = y := bits_eq fun j => h j
  rw [this]
theorem tb_and {x y : Int} (hx : B64 x) (hy : B64 y) (j : Nat) : tb (andV x y) j = (tb x j && tb y j) := by
  obtain ⟨x, rfl, kx⟩ := hx.nat
  obtain ⟨y, rfl, ky⟩ := hy.nat
  rw [andV_nat x y kx ky]
  exact Nat.testBit_and _ _ _
theorem tb_or {x y : Int} (hx : B64 x) (hy : B64 y) (j : Nat) : tb (orV x y) j = (tb x j || tb y j) := by
  obtain ⟨x, rfl, kx⟩ := hx.nat
  obtain ⟨y, rfl, ky⟩ := hy.nat
  rw [orV_nat x y kx ky]
  exact Nat.testBit_or _ _ _
theorem tb_andNot {x y : Int} (hx : B64 x) (hy : B64 y) (j : Nat) : tb (notV x y) j = (tb x j && !tb y j) := by
  obtain ⟨x, rfl, kx⟩ := hx.nat
  obtain ⟨y, rfl, ky⟩ := hy.nat
  rw [not_nat x y kx ky]
  exact tb_not x y j kx ky
theorem tb_pow (k j : Nat) : tb ((2 ^ k : Nat) : Int) j = decide (k = j) := by
  unfold tb
  rw [Int.toNat_natCast, Nat.testBit_two_pow]
theorem tb_1 (j : Nat) : tb 1 j = decide (0 = j) := tb_pow 0 j
theorem tb_2 (j : Nat) : tb 2 j = decide (1 = j) := tb_pow 1 j
theorem tb_32 (j : Nat) : tb 32 j = decide (5 = j) := tb_pow 5 j
theorem tb_256 (j : Nat) : tb 256 j = decide (8 = j) := tb_pow 8 j
theorem tb_zero (j : Nat) : tb 0 j = false := Nat.zero_testBit j
theorem on_and {x : Int} (hx : B64 x) (k : Nat) (hk : k < 64) : onV x ((2 ^ k : Nat) : Int) = tb x k := by
  have hb : (2 ^ k : Nat) < 18446744073709551616 := by have := Nat.pow_lt_pow_right (a := 2) (by omega) hk; omega
  obtain ⟨x, rfl, kx⟩ := hx.nat
  unfold onV
  rw [andV_nat x _ kx hb, and_pow]
  show _ = x.testBit k
  rw [Nat.testBit_eq_decide_div_mod_eq]
  have := Nat.mod_lt (x / 2 ^ k) (show 0 < 2 by omega)
  have h0 : 0 < 2 ^ k := Nat.pow_pos (by omega)
  by_cases e : x / 2 ^ k % 2 = 1
  · rw [e, Nat.one_mul]
    have : ¬ (((2 ^ k : Nat) : Int) = 0) := by omega
    rw [beq_false_of_ne this]; rfl
  · rw [show x / 2 ^ k % 2 = 0 by omega, Nat.zero_mul]; rfl
theorem on_1 {x : Int} (hx : B64 x) : onV x 1 = tb x 0 := on_and hx 0 (by omega)
theorem on_2 {x : Int} (hx : B64 x) : onV x 2 = tb x 1 := on_and hx 1 (by omega)
theorem on_32 {x : Int} (hx : B64 x) : onV x 32 = tb x 5 := on_and hx 5 (by omega)
theorem on_256 {x : Int} (hx : B64 x) : onV x 256 = tb x 8 := on_and hx 8 (by omega)
/-- The same bit by a shift. -/
theorem on_div {x : Int} (hx : B64 x) (k : Nat) (hk : k < 64) : (x / ((2 ^ k : Nat) : Int) % 2 == 1) = tb x k := by
  obtain ⟨x, rfl, kx⟩ := hx.nat
  show _ = x.testBit k
  rw [Nat.testBit_eq_decide_div_mod_eq]
  have : ((x : Int) / ((2 ^ k : Nat) : Int) % 2) = ((x / 2 ^ k % 2 : Nat) : Int) := by push_cast; rfl
  rw [this]
  by_cases e : x / 2 ^ k % 2 = 1
  · rw [e]; rfl
  · rw [decide_eq_false e]
    have : ¬ (((x / 2 ^ k % 2 : Nat) : Int) = 1) := by omega
    exact beq_false_of_ne this
theorem and_1 (x : Int) (hx : B64 x) : bits .and .u64 x 1 = x % 2 := by
  obtain ⟨x, rfl, kx⟩ := hx.nat; replace hx := kx
  have h := andV_nat x 1 hx (by omega)
  unfold andV at h
  rw [show (1 : Int) = ((1 : Nat) : Int) from rfl, h, show 1 = 2 ^ 0 from rfl, and_pow]
  omega
theorem shr_eq {x : Int} (hx : B64 x) (k : Nat) (hk : k < 64) : (bits .and .u64 (x / ((2 ^ k : Nat) : Int)) 1 == 1) = onV x ((2 ^ k : Nat) : Int) := by
  have h0 : (0 : Int) < ((2 ^ k : Nat) : Int) := by have := Nat.pow_pos (n := k) (show 0 < 2 by omega); omega
  have hd : B64 (x / ((2 ^ k : Nat) : Int)) := ⟨Int.ediv_nonneg hx.1 (by omega), Int.le_trans (Int.ediv_le_self _ hx.1) hx.2⟩
  rw [and_1 _ hd, on_div hx k hk, on_and hx k hk]
theorem shr_ne {x : Int} (hx : B64 x) (k : Nat) (hk : k < 64) : (bits .and .u64 (x / ((2 ^ k : Nat) : Int)) 1 != 0) = onV x ((2 ^ k : Nat) : Int) := by
  have h0 : (0 : Int) < ((2 ^ k : Nat) : Int) := by have := Nat.pow_pos (n := k) (show 0 < 2 by omega); omega
  have hd : B64 (x / ((2 ^ k : Nat) : Int)) := ⟨Int.ediv_nonneg hx.1 (by omega), Int.le_trans (Int.ediv_le_self _ hx.1) hx.2⟩
  rw [← shr_eq hx k hk, and_1 _ hd]
  have := Int.emod_nonneg (x / ((2 ^ k : Nat) : Int)) (show (2 : Int) ≠ 0 by omega)
  have := Int.emod_lt_of_pos (x / ((2 ^ k : Nat) : Int)) (show (0 : Int) < 2 by omega)
  generalize x / ((2 ^ k : Nat) : Int) % 2 = m at *
  by_cases e : m = 1
  · subst e; rfl
  · have : m = 0 := by omega
    subst this; rfl
theorem ne_2 {x : Int} (hx : B64 x) : (bits .and .u64 (x / 2) 1 != 0) = onV x 2 := shr_ne hx 1 (by omega)
theorem ne_32 {x : Int} (hx : B64 x) : (bits .and .u64 (x / 32) 1 != 0) = onV x 32 := shr_ne hx 5 (by omega)
theorem eq_2 {x : Int} (hx : B64 x) : (bits .and .u64 (x / 2) 1 == 1) = onV x 2 := shr_eq hx 1 (by omega)
theorem eq_32 {x : Int} (hx : B64 x) : (bits .and .u64 (x / 32) 1 == 1) = onV x 32 := shr_eq hx 5 (by omega)
theorem eq_256 {x : Int} (hx : B64 x) : (bits .and .u64 (x / 256) 1 == 1) = onV x 256 := shr_eq hx 8 (by omega)
theorem tb_with {x : Int} (hx : B64 x) {b : Int} (hb : B64 b) (s : Bool) (j : Nat) : tb (withV x b s) j = (if s = true then tb x j || tb b j else tb x j && !tb b j) := by
  unfold withV
  split
  · exact tb_or hx hb j
  · exact tb_andNot hx hb j
/-- To strike bits first changes nothing where they are set. -/
theorem set_eq {x b : Int} (hx : B64 x) (hb : B64 b) (s : Bool) : (if s = true then orV (notV x b) b else notV x b) = withV x b s := by
  unfold withV
  split
  · refine tb_eq (or_bd (not_bd hx hb) hb) (or_bd hx hb) fun j => ?_
    rw [tb_or (not_bd hx hb) hb, tb_andNot hx hb, tb_or hx hb]
    cases tb x j <;> cases tb b j <;> rfl
  · rfl
end Go.Proofs.YtkfmcbhoendocaaDoor.J
