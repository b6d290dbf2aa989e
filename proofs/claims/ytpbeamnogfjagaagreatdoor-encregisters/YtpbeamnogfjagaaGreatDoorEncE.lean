/-
  What package enc's Word is: contracts over the program's translation.
  Conditions: the arguments are numbers of their kinds; the table of package decode's kinds holds what the program's text lays.
-/
import Derived.Test.YtpbeamnogfjagaaGreatDoorEncEq
namespace Go.Proofs.YtpbeamnogfjagaaGreatDoor.E
open Go Go.RowKit Go.Maps F W M D
set_option linter.unusedVariables false
set_option maxRecDepth 100000

theorem or32 (a b : Nat) (ha : a < 4294967296) (hb : b < 4294967296) : bits .or .u32 (a : Int) (b : Int) = ((a ||| b : Nat) : Int) := by
  have h := (or_up32 a b 0 32 ha hb (by decide)).1
  rw [show (2 : Int) ^ 0 = 1 from rfl, Int.mul_one, IntKind.wrap_u32', Nat.shiftLeft_zero] at h
  rwa [show (b : Int) % 4294967296 = b by omega] at h
/-- A register's bits, as the program lays them. -/
def regI (r : Int) (k : Nat) : Nat := low r * 2 ^ k % 4294967296
theorem regI_lt (r : Int) (k : Nat) : regI r k < 4294967296 := Nat.mod_lt _ (by decide)
/-- The word that the program lays. -/
def layI (o rd rs1 rs2 im : Int) : Nat := put' (baseV o) (regI rd 7) (regI rs1 15) (regI rs2 20) (numI o im)
where put' (a b c d e : Nat) : Nat := a ||| b ||| c ||| d ||| e
theorem layI_lt (o rd rs1 rs2 im : Int) : layI o rd rs1 rs2 im < 4294967296 := by
  unfold layI layI.put'
  exact or_lt32 (or_lt32 (or_lt32 (or_lt32 (base_lt o) (regI_lt _ _)) (regI_lt _ _)) (regI_lt _ _)) (numI_lt _ _)
theorem layI_bits (o rd rs1 rs2 im : Int) :
    bits .or .u32 (bits .or .u32 (bits .or .u32 (bits .or .u32 ((baseV o : Nat) : Int) (rd % 4294967296 * 128 % 4294967296)) (rs1 % 4294967296 * 32768 % 4294967296)) (rs2 % 4294967296 * 1048576 % 4294967296)) ((numI o im : Nat) : Int) = (layI o rd rs1 rs2 im : Nat) := by
  have e7 : rd % 4294967296 * 128 % 4294967296 = ((regI rd 7 : Nat) : Int) := by unfold regI low; omega
  have e15 : rs1 % 4294967296 * 32768 % 4294967296 = ((regI rs1 15 : Nat) : Int) := by unfold regI low; omega
  have e20 : rs2 % 4294967296 * 1048576 % 4294967296 = ((regI rs2 20 : Nat) : Int) := by unfold regI low; omega
  have l0 := base_lt o
  have l1 := regI_lt rd 7
  have l2 := regI_lt rs1 15
  have l3 := regI_lt rs2 20
  have l4 := numI_lt o im
  rw [e7, e15, e20, or32 _ _ l0 l1, or32 _ _ (or_lt32 l0 l1) l2, or32 _ _ (or_lt32 (or_lt32 l0 l1) l2) l3, or32 _ _ (or_lt32 (or_lt32 (or_lt32 l0 l1) l2) l3) l4]
  rfl
theorem regI_in (r : Int) (k : Nat) (h : 0 ≤ r ∧ r ≤ 31) (hk : k ≤ 20) : regI r k = r.toNat <<< k := by
  have h1 : low r = r.toNat := by unfold low; omega
  have h2 := shl_lt (a := r.toNat) (k := k) (by omega) hk
  rw [regI, h1, ← Nat.shiftLeft_eq, Nat.mod_eq_of_lt h2]
theorem lay_0 (n : Int) : layV n 0 = 0 := by
  have : layB n 0 = false := by simp [layB, spn]
  rw [layV, this]; rfl
theorem numI_in (o : Int) (p : Parts) (h : D.Can o p) : numI o p.2.2.2 = numW o p.2.2.2 := by
  obtain ⟨rd, rs1, rs2, im⟩ := p
  obtain ⟨ho, _, _, _, hl⟩ := h
  simp only at hl ⊢
  unfold numI
  by_cases h : 70 ≤ o ∧ o ≤ 75
  · rw [if_pos h, num11 o im h]
    rw [lim15 _ _ _ _ _ h] at hl
    have h1 : low im = im.toNat := by unfold low; omega
    rw [h1, Nat.shiftLeft_eq, Nat.mod_eq_of_lt (by have := hl.2; omega)]
  · rw [if_neg h]
    rcases (show o ≤ 0 ∨ (1 ≤ o ∧ o ≤ 2) ∨ (3 ≤ o ∧ o ≤ 3) ∨ (4 ≤ o ∧ o ≤ 4) ∨ (5 ≤ o ∧ o ≤ 10) ∨ (11 ≤ o ∧ o ≤ 17) ∨ (18 ≤ o ∧ o ≤ 21) ∨ (22 ≤ o ∧ o ≤ 30) ∨ (31 ≤ o ∧ o ≤ 40) ∨ (41 ≤ o ∧ o ≤ 44) ∨ (45 ≤ o ∧ o ≤ 69) ∨ 76 ≤ o by omega) with k | k | k | k | k | k | k | k | k | k | k | k
    · rw [fmt0 k, num0 o im k, lay_0]
    · rw [fmt1 k, num1 o im k]
    · rw [fmt2 k, num2 o im k]
    · rw [fmt3 k, num3 o im k]
    · rw [fmt4 k, num4 o im k]
    · rw [fmt5 k, num5 o im k]
    · rw [fmt6 k, num6 o im k]
    · rw [fmt7 k, num7 o im k]
    · rw [fmt8 k, num8 o im k, lay_0]
    · rw [fmt9 k, num9 o im k]
    · rw [fmt10 k.1, num10 o im k, lay_0]
    · rw [fmt10 (by omega), num12 o im k, lay_0]
/-- Of what a word can say the program lays the least word. -/
theorem layI_can (o rd rs1 rs2 im : Int) (h : D.Can o (rd, rs1, rs2, im)) : layI o rd rs1 rs2 im = layW o (rd, rs1, rs2, im) := by
  have hn := numI_in o _ h
  obtain ⟨ho, h1, h2, h3, hl⟩ := h
  unfold layI layI.put' layW D.put
  rw [regI_in rd 7 h1 (by omega), regI_in rs1 15 h2 (by omega), regI_in rs2 20 h3 (by omega), hn]
set_option maxHeartbeats 4000000 in
theorem lay_c (o rd rs1 rs2 im n : Int) (ho : I64 o) (h1 : I64 rd) (h2 : I64 rs1) (h3 : I64 rs2) (hi : I64 im) (w : World) (hT : Tbl w) :
    Calls Tryz.prog 18 #[six o rd rs1 rs2 im n] w fun e w' => e = .returned (.int .u32 (layI o rd rs1 rs2 im : Nat)) ∧ w.grownBy w' none := by
  have HB := Lib.hid (layI_bits o rd rs1 rs2 im)
  have hS := held_new w hT o rd rs1 rs2 im n
  have hS0 := hS
  unfold Held at hS0
  clear hS
  have HC := Lib.hid (fun W h => least_c o ho W h)
  have HL := Lib.hid (fun W h => (show Calls Tryz.prog 37 #[six o rd rs1 rs2 im n] W fun e w' => e = .returned (.int .u32 (numI o im : Nat)) ∧ W.grownBy w' none from by
    by_cases hc : 70 ≤ o ∧ o ≤ 75
    · exact number_csr o rd rs1 rs2 im n hc W h
    · exact number_no o rd rs1 rs2 im n ho hi hc W h))
  have lb := base_lt o
  have ln := numI_lt o im
  obtain ⟨v, hv⟩ : ∃ v : Int, v = (layI o rd rs1 rs2 im : Nat) := ⟨_, rfl⟩
  rw [← hv] at HB ⊢
  clear hv
  generalize baseV o = lv at *
  generalize numI o im = lu at *
  go_enter Tryz.func18, Tryz.ntmps18
  go_wp2_with fail
  generalize w.alloc (.cells #[.int .i64 o, .int .i64 rd, .int .i64 rs1, .int .i64 rs2, .int .i64 im, .int .i64 n] 23) = W at *
  generalize w.heap.size = b at *
  go_region_held3 (fun w' => w'.cell? ⟨b, 0, none⟩ = some (.int .i64 o) ∧ w'.cell? ⟨b, 1, none⟩ = some (.int .i64 rd) ∧ w'.cell? ⟨b, 2, none⟩ = some (.int .i64 rs1) ∧ w'.cell? ⟨b, 3, none⟩ = some (.int .i64 rs2) ∧ w'.cell? ⟨b, 4, none⟩ = some (.int .i64 im) ∧ w'.cell? ⟨b, 5, none⟩ = some (.int .i64 n) ∧ Row w' b 23 [.int .i64 o, .int .i64 rd, .int .i64 rs1, .int .i64 rs2, .int .i64 im, .int .i64 n] ∧ Tbl w' ∧ w.grownBy w' none)
    (first | assumption | (exact Held.on (gr_drew (gr_refl _ none)) (by assumption)) | (exact Held.on (by assumption) (by assumption)))
    (first
      | (go_at_call 36; refine (HC.out _ (Held.tbl (by assumption))).mono ?_; rintro e w' ⟨rfl, hg⟩)
      | (go_at_call 37; refine (HL.out _ (Held.tbl (by assumption))).mono ?_; rintro e w' ⟨rfl, hg⟩))
  rename_i hHeld
  have hBe := Held.gr hHeld
  clear hHeld
  go_wp2_with fail
  go_ret
  exact ⟨ret_int HB.out, hBe⟩

/-- Whether there is a word, and which. -/
def okE (o rd rs1 rs2 im n : Int) : Bool := decide (D.wordV (layI o rd rs1 rs2 im) = (o, rd, rs1, rs2, im) ∧ n = 4)
def wordE (o rd rs1 rs2 im n : Int) : Nat := if okE o rd rs1 rs2 im n = true then layI o rd rs1 rs2 im else 0
theorem okE_iff (o rd rs1 rs2 im n : Int) : okE o rd rs1 rs2 im n = true ↔ D.Can o (rd, rs1, rs2, im) ∧ n = 4 := by
  unfold okE
  rw [decide_eq_true_iff]
  constructor
  · rintro ⟨h, rfl⟩
    have := word_can (layI o rd rs1 rs2 im)
    rw [h] at this
    exact ⟨this, rfl⟩
  · rintro ⟨h, rfl⟩
    rw [layI_can _ _ _ _ _ h]
    exact ⟨(lay_word _ _ h).2, rfl⟩
set_option maxHeartbeats 4000000 in
theorem Word_yes (o rd rs1 rs2 im n : Int) (ho : I64 o) (h1 : I64 rd) (h2 : I64 rs1) (h3 : I64 rs2) (hi : I64 im) (h : okE o rd rs1 rs2 im n = true) (w : World) (hT : Tbl w) :
    Calls Tryz.prog 9 #[six o rd rs1 rs2 im n] w fun e w' => e = .returned (.tuple #[.int .u32 (layI o rd rs1 rs2 im : Nat), .bool true]) ∧ w.grownBy w' none := by
  have hS := held_new w hT o rd rs1 rs2 im n
  unfold okE at h
  rw [decide_eq_true_iff] at h
  obtain ⟨h, rfl⟩ := h
  have HC := Lib.hid (fun W h => lay_c o rd rs1 rs2 im 4 ho h1 h2 h3 hi W h)
  have HW := Lib.hid (fun W => Word_at (layI_lt o rd rs1 rs2 im) h W)
  clear h
  generalize layI o rd rs1 rs2 im = v at *
  have HT := Lib.hid hS.tbl
  have HS := Lib.hid hS
  obtain ⟨c0, c1, c2, c3, c4, c5, _, _, _⟩ := hS
  go_enter Tryz.func9, Tryz.ntmps9
  go_wp2_with fail
  refine (HC.out _ HT.out).mono ?_
  rintro e w1 ⟨rfl, hG1⟩
  have hS0 := HS.out.on hG1
  unfold Held at hS0
  clear c0 c1 c2 c3 c4 c5 hG1 HS HT
  generalize w.heap.size = b at *
  go_wp2_with fail
  go_region_held3 (fun w' => w'.cell? ⟨b, 0, none⟩ = some (.int .i64 o) ∧ w'.cell? ⟨b, 1, none⟩ = some (.int .i64 rd) ∧ w'.cell? ⟨b, 2, none⟩ = some (.int .i64 rs1) ∧ w'.cell? ⟨b, 3, none⟩ = some (.int .i64 rs2) ∧ w'.cell? ⟨b, 4, none⟩ = some (.int .i64 im) ∧ w'.cell? ⟨b, 5, none⟩ = some (.int .i64 4) ∧ Row w' b 23 [.int .i64 o, .int .i64 rd, .int .i64 rs1, .int .i64 rs2, .int .i64 im, .int .i64 4] ∧ Tbl w' ∧ w.grownBy w' none)
    (first | assumption | (exact Held.on (gr_drew (gr_refl _ none)) (by assumption)) | (exact Held.on (by assumption) (by assumption)))
    ((go_at_call 19; refine (HW.out _).mono ?_; rintro e w' ⟨rfl, hg⟩))
  rename_i hHeld
  have hBe := Held.gr hHeld
  clear hHeld
  go_wp2_with fail
  go_ret2
  exact ⟨rfl, hBe⟩
set_option maxHeartbeats 4000000 in
theorem Word_no (o rd rs1 rs2 im n : Int) (ho : I64 o) (h1 : I64 rd) (h2 : I64 rs1) (h3 : I64 rs2) (hi : I64 im) (h : okE o rd rs1 rs2 im n = false) (w : World) (hT : Tbl w) :
    Calls Tryz.prog 9 #[six o rd rs1 rs2 im n] w fun e w' => e = .returned (.tuple #[.int .u32 0, .bool false]) ∧ w.grownBy w' none := by
  have hS := held_new w hT o rd rs1 rs2 im n
  unfold okE at h
  rw [decide_eq_false_iff_not] at h
  have HC := Lib.hid (fun W h => lay_c o rd rs1 rs2 im n ho h1 h2 h3 hi W h)
  have HW := Lib.hid (fun W => Word_c (layI o rd rs1 rs2 im) (layI_lt o rd rs1 rs2 im) W)
  generalize D.wordV (layI o rd rs1 rs2 im) = q at *
  obtain ⟨a1, a2, a3, a4, a5⟩ := q
  have hne : ¬ (a1 = o ∧ a2 = rd ∧ a3 = rs1 ∧ a4 = rs2 ∧ a5 = im ∧ 4 = n) := fun ⟨e1, e2, e3, e4, e5, e6⟩ => h ⟨by rw [e1, e2, e3, e4, e5], e6.symm⟩
  have hq := fun W => neq_yes hne W
  clear h hne
  generalize layI o rd rs1 rs2 im = v at *
  have HT := Lib.hid hS.tbl
  have HS := Lib.hid hS
  obtain ⟨c0, c1, c2, c3, c4, c5, _, _, _⟩ := hS
  go_enter Tryz.func9, Tryz.ntmps9
  go_wp2_with fail
  refine (HC.out _ HT.out).mono ?_
  rintro e w1 ⟨rfl, hG1⟩
  have hS0 := HS.out.on hG1
  unfold Held at hS0
  clear c0 c1 c2 c3 c4 c5 hG1 HS HT
  generalize w.heap.size = b at *
  go_wp2_with fail
  go_region_held3 (fun w' => w'.cell? ⟨b, 0, none⟩ = some (.int .i64 o) ∧ w'.cell? ⟨b, 1, none⟩ = some (.int .i64 rd) ∧ w'.cell? ⟨b, 2, none⟩ = some (.int .i64 rs1) ∧ w'.cell? ⟨b, 3, none⟩ = some (.int .i64 rs2) ∧ w'.cell? ⟨b, 4, none⟩ = some (.int .i64 im) ∧ w'.cell? ⟨b, 5, none⟩ = some (.int .i64 n) ∧ Row w' b 23 [.int .i64 o, .int .i64 rd, .int .i64 rs1, .int .i64 rs2, .int .i64 im, .int .i64 n] ∧ Tbl w' ∧ w.grownBy w' none)
    (first | assumption | (exact Held.on (gr_drew (gr_refl _ none)) (by assumption)) | (exact Held.on (by assumption) (by assumption)))
    ((go_at_call 19; refine (HW.out _).mono ?_; rintro e w' ⟨rfl, hg⟩; simp only [insn]))
  rename_i hHeld
  have hBe := Held.gr hHeld
  clear hHeld
  go_wp2_with fail
  go_ret2
  exact ⟨rfl, hBe⟩
theorem Word_e (o rd rs1 rs2 im n : Int) (ho : I64 o) (h1 : I64 rd) (h2 : I64 rs1) (h3 : I64 rs2) (hi : I64 im) (w : World) (hT : Tbl w) :
    Calls Tryz.prog 9 #[six o rd rs1 rs2 im n] w fun e w' => e = .returned (.tuple #[.int .u32 (wordE o rd rs1 rs2 im n : Nat), .bool (okE o rd rs1 rs2 im n)]) ∧ w.grownBy w' none := by
  unfold wordE
  by_cases h : okE o rd rs1 rs2 im n = true
  · rw [if_pos h, h]
    exact Word_yes o rd rs1 rs2 im n ho h1 h2 h3 hi h w hT
  · rw [if_neg h, Bool.eq_false_iff.2 h]
    exact Word_no o rd rs1 rs2 im n ho h1 h2 h3 hi (Bool.eq_false_iff.2 h) w hT
end Go.Proofs.YtpbeamnogfjagaaGreatDoor.E
