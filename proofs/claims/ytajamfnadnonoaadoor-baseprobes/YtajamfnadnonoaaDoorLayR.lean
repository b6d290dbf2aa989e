/-
  Plain mathematics of memory: numbers as bytes, the lowest first; a list with other bytes laid over it.
  Bits of numbers that bytes make: a byte laid above those that are there, and a byte taken out.
  Conditions: each part's own: the arguments are numbers of their kinds; the tables hold what the program's text lays.
-/
import Derived.Laws.CopyOwn
import Derived.WalkKit
section
namespace Go.Proofs.YtajamfnadnonoaaDoor.M
open Go
set_option linter.unusedVariables false

/-- The number that bytes are, the lowest first. -/
def leV : List Int → Int
  | [] => 0
  | b :: t => b + 256 * leV t
/-- The lowest n bytes of a number, the lowest first. -/
def toB : Nat → Int → List Int
  | 0, _ => []
  | n + 1, x => x % 256 :: toB n (x / 256)
def Byt (bs : List Int) : Prop := ∀ b ∈ bs, 0 ≤ b ∧ b ≤ 255

theorem p256_le {m k : Nat} (h : m ≤ k) : (256 : Int) ^ m ≤ 256 ^ k := by
  have := Int.ofNat_le.2 (Nat.pow_le_pow_right (n := 256) (by omega) h)
  simpa using this
theorem toB_length : ∀ (n : Nat) (x : Int), (toB n x).length = n
  | 0, _ => rfl
  | n + 1, x => by simp [toB, toB_length n]
theorem toB_byt : ∀ (n : Nat) (x : Int), Byt (toB n x)
  | 0, _ => by simp [toB, Byt]
  | n + 1, x => by
    intro b hb
    simp only [toB, List.mem_cons] at hb
    rcases hb with rfl | hb
    · omega
    · exact toB_byt n _ b hb
theorem p256 (k : Nat) : (0 : Int) < 256 ^ k := Int.pow_pos (by omega)
theorem toB_get : ∀ (n : Nat) (x : Int) (k : Nat), k < n → (toB n x)[k]? = some (x / 256 ^ k % 256)
  | n + 1, x, 0, _ => by simp [toB]
  | n + 1, x, k + 1, h => by
    rw [toB, List.getElem?_cons_succ, toB_get n (x / 256) k (by omega)]
    rw [Int.ediv_ediv_of_nonneg (by omega), Int.pow_succ, Int.mul_comm]
theorem toB_snoc (n : Nat) (x : Int) : toB (n + 1) x = toB n x ++ [x / 256 ^ n % 256] := by
  apply List.ext_getElem?
  intro k
  rcases Nat.lt_trichotomy k n with h | h | h
  · rw [toB_get _ _ _ (by omega), List.getElem?_append_left (by rw [toB_length]; exact h), toB_get _ _ _ h]
  · subst h
    rw [toB_get _ _ _ (by omega), List.getElem?_append_right (by rw [toB_length]; omega)]
    simp [toB_length]
  · rw [List.getElem?_eq_none (by rw [toB_length]; omega), List.getElem?_eq_none (by simp [toB_length]; omega)]
theorem leV_bd : ∀ (l : List Int), Byt l → 0 ≤ leV l ∧ leV l < 256 ^ l.length
  | [], _ => by simp [leV]
  | b :: t, h => by
    have h1 := leV_bd t fun x hx => h x (by simp [hx])
    have h2 := h b (by simp)
    rw [leV, List.length_cons, Int.pow_succ]
    omega
theorem leV_append : ∀ (l r : List Int), leV (l ++ r) = leV l + 256 ^ l.length * leV r
  | [], r => by simp [leV]
  | b :: t, r => by
    rw [List.cons_append, leV, leV, leV_append t r, List.length_cons, Int.pow_succ, Int.mul_add, Int.mul_comm (256 ^ t.length) 256, Int.mul_assoc]
    omega
theorem leV_snoc (l : List Int) (b : Int) : leV (l ++ [b]) = leV l + 256 ^ l.length * b := by
  rw [leV_append]; simp [leV]
theorem leV_toB : ∀ (n : Nat) (x : Int), leV (toB n x) = x % 256 ^ n
  | 0, x => by simp [toB, leV]
  | n + 1, x => by
    rw [toB, leV, leV_toB n, Int.pow_succ, Int.mul_comm (256 ^ n) 256]
    have hp := p256 n
    have e1 := Int.mul_ediv_add_emod x 256
    have e2 := Int.mul_ediv_add_emod (x / 256) (256 ^ n)
    have hb : 0 ≤ x / 256 % 256 ^ n ∧ x / 256 % 256 ^ n < 256 ^ n := ⟨Int.emod_nonneg _ (by omega), Int.emod_lt_of_pos _ hp⟩
    have e3 : x = x % 256 + 256 * (x / 256 % 256 ^ n) + 256 * 256 ^ n * (x / 256 / 256 ^ n) := by
      rw [Int.mul_assoc]; omega
    generalize hq : x / 256 / 256 ^ n = q at *
    generalize hr : x / 256 % 256 ^ n = r at *
    have hbd : 0 ≤ x % 256 + 256 * r ∧ x % 256 + 256 * r < 256 * 256 ^ n := by omega
    have : x % (256 * 256 ^ n) = (x % 256 + 256 * r) % (256 * 256 ^ n) := by
      conv => lhs; rw [e3]
      rw [Int.add_mul_emod_self_left]
    rw [this, Int.emod_eq_of_lt hbd.1 hbd.2]

/-! ### A list laid over another -/
theorem splice_length {α : Type} (L : List α) (o : Nat) (cs : List α) (h : o + cs.length ≤ L.length) : (splice L o cs).length = L.length := length_splice L o cs h
theorem splice_get {α : Type} (L : List α) (o : Nat) (cs : List α) (h : o + cs.length ≤ L.length) (i : Nat) :
    (splice L o cs)[i]? = if o ≤ i ∧ i < o + cs.length then cs[i - o]? else L[i]? := by
  unfold splice
  by_cases h1 : i < o
  · rw [if_neg (by omega), List.getElem?_append_left (by simp; omega), List.getElem?_take_of_lt h1]
  · rw [List.getElem?_append_right (by simp; omega), List.length_take, Nat.min_eq_left (by omega)]
    by_cases h2 : i < o + cs.length
    · rw [if_pos ⟨by omega, h2⟩, List.getElem?_append_left (by omega)]
    · rw [if_neg (by omega), List.getElem?_append_right (by omega), List.getElem?_drop]
      congr 1; omega
theorem splice_nil {α : Type} (L : List α) (o : Nat) : splice L o [] = L := by simp [splice]
theorem splice_snoc {α : Type} (L : List α) (o : Nat) (cs : List α) (v : α) (h : o + cs.length < L.length) :
    splice L o (cs ++ [v]) = (splice L o cs).set (o + cs.length) v := by
  apply List.ext_getElem?
  intro i
  rw [splice_get _ _ _ (by simp; omega), List.getElem?_set, splice_get _ _ _ (by omega), splice_length _ _ _ (by omega)]
  simp only [List.length_append, List.length_cons, List.length_nil]
  by_cases h1 : o + cs.length = i
  · subst h1
    rw [if_pos (by omega), if_pos rfl, if_pos h, List.getElem?_append_right (by omega)]
    simp
  · rw [if_neg h1]
    by_cases h2 : o ≤ i ∧ i < o + cs.length
    · rw [if_pos (by omega), if_pos h2, List.getElem?_append_left (by omega)]
    · rw [if_neg (by omega), if_neg h2]
theorem splice_map {α β : Type} (f : α → β) (L : List α) (o : Nat) (cs : List α) : (splice L o cs).map f = splice (L.map f) o (cs.map f) := by
  simp [splice, List.map_take, List.map_drop]
theorem mem_splice {α : Type} {L : List α} {o : Nat} {cs : List α} {x : α} (h : x ∈ splice L o cs) : x ∈ L ∨ x ∈ cs := by
  simp only [splice, List.mem_append] at h
  rcases h with h | h | h
  · exact .inl (List.mem_of_mem_take h)
  · exact .inr h
  · exact .inl (List.mem_of_mem_drop h)
theorem splice_byt {L cs : List Int} (o : Nat) (hL : Byt L) (hc : Byt cs) : Byt (splice L o cs) := fun b hb => (mem_splice hb).elim (hL b) (hc b)
theorem splice_self {α : Type} (L : List α) (o : Nat) (cs : List α) (h : o + cs.length ≤ L.length) : ((splice L o cs).drop o).take cs.length = cs := by
  apply List.ext_getElem?
  intro i
  rw [List.getElem?_take]
  split
  · rw [List.getElem?_drop, splice_get _ _ _ h, if_pos (by omega)]
    congr 1; omega
  · rw [List.getElem?_eq_none (by omega)]
theorem splice_all {α : Type} (L cs : List α) (h : cs.length = L.length) : splice L 0 cs = cs := by
  simp [splice, h, List.drop_length]

/-! ### What memory answers -/
def widB (n : Int) : Bool := decide (n = 1 ∨ n = 2 ∨ n = 4 ∨ n = 8)
/-- Whether n bytes from an address on are there, of len bytes. -/
def hasB (len : Nat) (a n : Int) : Bool := decide (0 ≤ n ∧ 2147483648 ≤ a ∧ a - 2147483648 + n ≤ len)
def offV (a : Int) : Nat := (a - 2147483648).toNat
def okB (len : Nat) (a n : Int) : Bool := widB n && hasB len a n
def getV (bs : List Int) (a n : Int) : Int := if okB bs.length a n = true then leV ((bs.drop (offV a)).take n.toNat) else 0
def putV (bs : List Int) (a n x : Int) : List Int := if okB bs.length a n = true then splice bs (offV a) (toB n.toNat x) else bs
def loadV (bs : List Int) (a : Int) (zs : List Int) : List Int := if hasB bs.length a zs.length = true then splice bs (offV a) zs else bs
def partV (bs : List Int) (a n : Int) : List Int := if hasB bs.length a n = true then (bs.drop (offV a)).take n.toNat else []

theorem has_of {len : Nat} {a n : Int} (h : hasB len a n = true) : 0 ≤ n ∧ 2147483648 ≤ a ∧ a - 2147483648 + n ≤ len := of_decide_eq_true h
theorem has_off {len : Nat} {a n : Int} (h : hasB len a n = true) : (offV a : Int) = a - 2147483648 ∧ offV a + n.toNat ≤ len := by
  have := has_of h; unfold offV; omega
theorem wid_of {n : Int} (h : widB n = true) : 1 ≤ n ∧ n ≤ 8 := by have := of_decide_eq_true h; omega
theorem ok_of {len : Nat} {a n : Int} (h : okB len a n = true) : widB n = true ∧ hasB len a n = true := by simpa [okB] using h
theorem putV_length (bs : List Int) (a n x : Int) : (putV bs a n x).length = bs.length := by
  unfold putV; split
  · rename_i h
    have := (has_off (ok_of h).2).2
    exact splice_length _ _ _ (by rw [toB_length]; omega)
  · rfl
theorem loadV_length (bs : List Int) (a : Int) (zs : List Int) : (loadV bs a zs).length = bs.length := by
  unfold loadV; split
  · rename_i h
    have := (has_off h).2
    exact splice_length _ _ _ (by omega)
  · rfl
theorem putV_byt {bs : List Int} (h : Byt bs) (a n x : Int) : Byt (putV bs a n x) := by
  unfold putV; split
  · exact splice_byt _ h (toB_byt _ _)
  · exact h
theorem loadV_byt {bs zs : List Int} (h : Byt bs) (hz : Byt zs) (a : Int) : Byt (loadV bs a zs) := by
  unfold loadV; split
  · exact splice_byt _ h hz
  · exact h
theorem take_byt {l : List Int} (h : Byt l) (n : Nat) : Byt (l.take n) := fun b hb => h b (List.mem_of_mem_take hb)
theorem drop_byt {l : List Int} (h : Byt l) (n : Nat) : Byt (l.drop n) := fun b hb => h b (List.mem_of_mem_drop hb)
theorem partV_byt {bs : List Int} (h : Byt bs) (a n : Int) : Byt (partV bs a n) := by
  unfold partV; split
  · exact take_byt (drop_byt h _) _
  · simp [Byt]
theorem getV_bd {bs : List Int} (h : Byt bs) (a n : Int) : 0 ≤ getV bs a n ∧ getV bs a n ≤ 18446744073709551615 := by
  unfold getV; split
  · rename_i hk
    have h1 := leV_bd _ (take_byt (drop_byt h (offV a)) n.toNat)
    have h2 := of_decide_eq_true (ok_of hk).1
    have h3 : ((bs.drop (offV a)).take n.toNat).length ≤ 8 := by
      have := wid_of (ok_of hk).1
      rw [List.length_take]; omega
    have h4 : (256 : Int) ^ ((bs.drop (offV a)).take n.toNat).length ≤ 256 ^ 8 := p256_le h3
    omega
  · omega
end Go.Proofs.YtajamfnadnonoaaDoor.M
end

section
namespace Go.Proofs.YtajamfnadnonoaaDoor.M
open Go Go.RowKit
set_option linter.unusedVariables false

theorem pow_8 (k : Nat) : (2 : Int) ^ (8 * k) = 256 ^ k := by rw [Int.pow_mul]; rfl
theorem pow_cast (k : Nat) : (256 : Int) ^ k = ((256 ^ k : Nat) : Int) := (Int.natCast_pow 256 k).symm
theorem or_nat (x b i : Nat) (h : x < 2 ^ i) : x ||| 2 ^ i * b = 2 ^ i * b + x := by
  rw [Nat.or_comm]; exact (Nat.two_pow_add_eq_or_of_lt h b).symm
theorem or_u64 (x y : Nat) (hx : x < 18446744073709551616) (hy : y < 18446744073709551616) (hz : x ||| y < 18446744073709551616) :
    bits .or .u64 (x : Int) (y : Int) = ((x ||| y : Nat) : Int) := by
  show IntKind.u64.wrap (((BitVec.ofInt 64 (x : Int) ||| BitVec.ofInt 64 (y : Int)).toNat : Nat) : Int) = _
  rw [BitVec.toNat_or, BitVec.toNat_ofInt, BitVec.toNat_ofInt, IntKind.wrap_u64]
  have ex : ((x : Int) % ((2 ^ 64 : Nat) : Int)).toNat = x := by rw [show (2 : Nat) ^ 64 = 18446744073709551616 from rfl]; omega
  have ey : ((y : Int) % ((2 ^ 64 : Nat) : Int)).toNat = y := by rw [show (2 : Nat) ^ 64 = 18446744073709551616 from rfl]; omega
  rw [ex, ey]; omega
theorem or_step (x b : Int) (k : Nat) (hk : k < 8) (hx : 0 ≤ x ∧ x < 256 ^ k) (hb : 0 ≤ b ∧ b ≤ 255) :
    bits .or .u64 x (IntKind.u64.wrap (b * 2 ^ (8 * k))) = x + 256 ^ k * b := by
  obtain ⟨xn, rfl⟩ : ∃ n : Nat, x = n := ⟨x.toNat, by omega⟩
  obtain ⟨bn, rfl⟩ : ∃ n : Nat, b = n := ⟨b.toNat, by omega⟩
  have h8 : (256 : Nat) ^ (k + 1) ≤ 256 ^ 8 := Nat.pow_le_pow_right (by omega) (by omega)
  rw [Nat.pow_succ] at h8
  have e : (256 : Nat) ^ k = 2 ^ (8 * k) := by rw [Nat.pow_mul]
  rw [pow_8]
  rw [pow_cast] at hx ⊢
  have hxn : xn < 2 ^ (8 * k) := by omega
  rw [← Int.natCast_mul, ← Int.natCast_mul, Nat.mul_comm bn]
  have hm : 256 ^ k * bn ≤ 256 ^ k * 255 := Nat.mul_le_mul_left _ (by omega)
  have ho := or_nat xn bn (8 * k) hxn
  rw [← e] at ho
  rw [IntKind.wrap_u64, Int.emod_eq_of_lt (by omega) (by omega), or_u64 _ _ (by omega) (by omega) (by omega), ho]
  omega
theorem byte_step (x : Int) (k : Nat) : IntKind.u8.wrap (x / 2 ^ (8 * k)) = x / 256 ^ k % 256 := by
  rw [pow_8, IntKind.wrap_u8]
end Go.Proofs.YtajamfnadnonoaaDoor.M
end
