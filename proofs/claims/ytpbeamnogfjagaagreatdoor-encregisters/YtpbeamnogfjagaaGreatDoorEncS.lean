/-
  What package enc's Text is: contracts over the program's translation.
  Conditions: the arguments are numbers of their kinds; the tables hold what the program's text lays.
-/
import Derived.Test.YtpbeamnogfjagaaGreatDoorEncN
import Derived.Test.YtpbeamnogfjagaaGreatDoorEncD
import Derived.Test.YtpbeamnogfjagaaGreatDoorShelf
import Derived.Lib.ItoaLen
import Derived.Sort.Grow
import Derived.Laws.AppendOwnNone
namespace Go.Proofs.YtpbeamnogfjagaaGreatDoor.E
open Go Go.RowKit Go.Sort F W M D
set_option linter.unusedVariables false
set_option maxRecDepth 100000

theorem gr_grow (w : World) (k : Nat) (os : Array Obj) : w.grownBy (Sort.grow (w.drewN k) os) none := by
  have h := gr_drewN (gr_refl w none) k
  refine ⟨h.os, h.tape, h.output, by simp [Sort.grow], ?_⟩
  intro i hi hne
  have hs : ¬ w.heap.size ≤ i := by omega
  rw [← h.block i hi hne]
  simp [Sort.grow, Array.getElem?_append]
  intro hc
  exact absurd hc hs
theorem itoa_c (n : Int) (hn : I64 n) (w : World) (h : Tabs w) :
    Calls Tryz.prog 24 #[.int .i64 n] w fun e w' => e = .returned (.string (txt (Lib.itoa n))) ∧ w.grownBy w' none :=
  (Tryz.strconv_Itoa n hn.1 hn.2 w h.2.2).mono fun e w' ⟨he, k, os, hw⟩ => ⟨he, by rw [hw]; exact gr_grow w k os⟩
theorem fmtInt_c (n : Int) (hn : I64 n) (w : World) (h : Tabs w) :
    Calls Tryz.prog 41 #[.int .i64 n, .int .i64 10] w fun e w' => e = .returned (.string (txt (Lib.itoa n))) ∧ w.grownBy w' none :=
  (Tryz.strconv_FormatInt_10 n hn.1 hn.2 w h.2.2).mono fun e w' ⟨he, k, os, hw⟩ => ⟨he, by rw [hw]; exact gr_grow w k os⟩
/-- A register, as text. -/
def regT (r : Int) : Bytes := 120 :: Lib.itoa r
theorem itoa_size (n : Int) (hn : I64 n) : (txt (Lib.itoa n)).size ≤ 21 := by rw [txt_size]; exact Lib.itoa_length_le n hn.1 hn.2
theorem register_c (r : Int) (hr : I64 r) (w : World) (h : Tabs w) :
    Calls Tryz.prog 40 #[.int .i64 r] w fun e w' => e = .returned (.string (txt (regT r))) ∧ w.grownBy w' none := by
  have HA := Lib.hid (show txt (regT r) = txt [120] ++ txt (Lib.itoa r) from by rw [txt_app]; rfl)
  have hz := itoa_size r hr
  have HC := Lib.hid (itoa_c r hr w h)
  obtain ⟨s, hs⟩ : ∃ s, s = txt (Lib.itoa r) := ⟨_, rfl⟩
  rw [← hs] at HA HC hz
  clear hs
  go_enter Tryz.func40, Tryz.ntmps40
  go_wp2_with fail
  refine HC.out.mono ?_
  rintro e w1 ⟨rfl, hG⟩
  go_wp2_with fail
  go_ret
  exact ⟨by rw [HA.out]; rfl, hG⟩
/-- The texts behind the name. -/
def opsV (o rd rs1 rs2 im : Int) : List Bytes :=
  if o ≤ 0 then [] else if o ≤ 3 then [regT rd, Lib.itoa im] else if o ≤ 4 then [regT rd, regT rs1, Lib.itoa im] else if o ≤ 10 then [regT rs1, regT rs2, Lib.itoa im] else if o ≤ 17 then [regT rd, regT rs1, Lib.itoa im]
  else if o ≤ 21 then [regT rs1, regT rs2, Lib.itoa im] else if o ≤ 30 then [regT rd, regT rs1, Lib.itoa im] else if o ≤ 40 then [regT rd, regT rs1, regT rs2] else if o ≤ 44 then [regT rd, regT rs1, Lib.itoa im]
  else if o ≤ 62 then [regT rd, regT rs1, regT rs2] else if o ≤ 69 then [] else if o ≤ 75 then [regT rd, regT rs1, Lib.itoa im] else if o ≤ 97 then [regT rd, regT rs1, regT rs2] else []
theorem ops0 {o : Int} (k : o ≤ 0) (rd rs1 rs2 im : Int) : opsV o rd rs1 rs2 im = [] := by
  unfold opsV; rw [if_pos (by omega)]
theorem ops1 {o : Int} (k : o = 1) (rd rs1 rs2 im : Int) : opsV o rd rs1 rs2 im = [regT rd, Lib.itoa im] := by
  unfold opsV; rw [if_neg (by omega), if_pos (by omega)]
theorem ops2 {o : Int} (k : o = 2) (rd rs1 rs2 im : Int) : opsV o rd rs1 rs2 im = [regT rd, Lib.itoa im] := by
  unfold opsV; rw [if_neg (by omega), if_pos (by omega)]
theorem ops3 {o : Int} (k : o = 3) (rd rs1 rs2 im : Int) : opsV o rd rs1 rs2 im = [regT rd, Lib.itoa im] := by
  unfold opsV; rw [if_neg (by omega), if_pos (by omega)]
theorem ops4 {o : Int} (k : 4 ≤ o ∧ o ≤ 4) (rd rs1 rs2 im : Int) : opsV o rd rs1 rs2 im = [regT rd, regT rs1, Lib.itoa im] := by
  unfold opsV; rw [if_neg (by omega), if_neg (by omega), if_pos (by omega)]
theorem ops5 {o : Int} (k : 5 ≤ o ∧ o ≤ 10) (rd rs1 rs2 im : Int) : opsV o rd rs1 rs2 im = [regT rs1, regT rs2, Lib.itoa im] := by
  unfold opsV; rw [if_neg (by omega), if_neg (by omega), if_neg (by omega), if_pos (by omega)]
theorem ops6 {o : Int} (k : 11 ≤ o ∧ o ≤ 17) (rd rs1 rs2 im : Int) : opsV o rd rs1 rs2 im = [regT rd, regT rs1, Lib.itoa im] := by
  unfold opsV; rw [if_neg (by omega), if_neg (by omega), if_neg (by omega), if_neg (by omega), if_pos (by omega)]
theorem ops7 {o : Int} (k : 18 ≤ o ∧ o ≤ 21) (rd rs1 rs2 im : Int) : opsV o rd rs1 rs2 im = [regT rs1, regT rs2, Lib.itoa im] := by
  unfold opsV; rw [if_neg (by omega), if_neg (by omega), if_neg (by omega), if_neg (by omega), if_neg (by omega), if_pos (by omega)]
theorem ops8 {o : Int} (k : 22 ≤ o ∧ o ≤ 30) (rd rs1 rs2 im : Int) : opsV o rd rs1 rs2 im = [regT rd, regT rs1, Lib.itoa im] := by
  unfold opsV; rw [if_neg (by omega), if_neg (by omega), if_neg (by omega), if_neg (by omega), if_neg (by omega), if_neg (by omega), if_pos (by omega)]
theorem ops9 {o : Int} (k : 31 ≤ o ∧ o ≤ 40) (rd rs1 rs2 im : Int) : opsV o rd rs1 rs2 im = [regT rd, regT rs1, regT rs2] := by
  unfold opsV; rw [if_neg (by omega), if_neg (by omega), if_neg (by omega), if_neg (by omega), if_neg (by omega), if_neg (by omega), if_neg (by omega), if_pos (by omega)]
theorem ops10 {o : Int} (k : 41 ≤ o ∧ o ≤ 44) (rd rs1 rs2 im : Int) : opsV o rd rs1 rs2 im = [regT rd, regT rs1, Lib.itoa im] := by
  unfold opsV; rw [if_neg (by omega), if_neg (by omega), if_neg (by omega), if_neg (by omega), if_neg (by omega), if_neg (by omega), if_neg (by omega), if_neg (by omega), if_pos (by omega)]
theorem ops11 {o : Int} (k : 45 ≤ o ∧ o ≤ 49) (rd rs1 rs2 im : Int) : opsV o rd rs1 rs2 im = [regT rd, regT rs1, regT rs2] := by
  unfold opsV; rw [if_neg (by omega), if_neg (by omega), if_neg (by omega), if_neg (by omega), if_neg (by omega), if_neg (by omega), if_neg (by omega), if_neg (by omega), if_neg (by omega), if_pos (by omega)]
theorem ops12 {o : Int} (k : 50 ≤ o ∧ o ≤ 57) (rd rs1 rs2 im : Int) : opsV o rd rs1 rs2 im = [regT rd, regT rs1, regT rs2] := by
  unfold opsV; rw [if_neg (by omega), if_neg (by omega), if_neg (by omega), if_neg (by omega), if_neg (by omega), if_neg (by omega), if_neg (by omega), if_neg (by omega), if_neg (by omega), if_pos (by omega)]
theorem ops13 {o : Int} (k : 58 ≤ o ∧ o ≤ 62) (rd rs1 rs2 im : Int) : opsV o rd rs1 rs2 im = [regT rd, regT rs1, regT rs2] := by
  unfold opsV; rw [if_neg (by omega), if_neg (by omega), if_neg (by omega), if_neg (by omega), if_neg (by omega), if_neg (by omega), if_neg (by omega), if_neg (by omega), if_neg (by omega), if_pos (by omega)]
theorem ops14 {o : Int} (k : 63 ≤ o ∧ o ≤ 69) (rd rs1 rs2 im : Int) : opsV o rd rs1 rs2 im = [] := by
  unfold opsV; rw [if_neg (by omega), if_neg (by omega), if_neg (by omega), if_neg (by omega), if_neg (by omega), if_neg (by omega), if_neg (by omega), if_neg (by omega), if_neg (by omega), if_neg (by omega), if_pos (by omega)]
theorem ops15 {o : Int} (k : 70 ≤ o ∧ o ≤ 75) (rd rs1 rs2 im : Int) : opsV o rd rs1 rs2 im = [regT rd, regT rs1, Lib.itoa im] := by
  unfold opsV; rw [if_neg (by omega), if_neg (by omega), if_neg (by omega), if_neg (by omega), if_neg (by omega), if_neg (by omega), if_neg (by omega), if_neg (by omega), if_neg (by omega), if_neg (by omega), if_neg (by omega), if_pos (by omega)]
theorem ops16 {o : Int} (k : 76 ≤ o ∧ o ≤ 86) (rd rs1 rs2 im : Int) : opsV o rd rs1 rs2 im = [regT rd, regT rs1, regT rs2] := by
  unfold opsV; rw [if_neg (by omega), if_neg (by omega), if_neg (by omega), if_neg (by omega), if_neg (by omega), if_neg (by omega), if_neg (by omega), if_neg (by omega), if_neg (by omega), if_neg (by omega), if_neg (by omega), if_neg (by omega), if_pos (by omega)]
theorem ops17 {o : Int} (k : 87 ≤ o ∧ o ≤ 97) (rd rs1 rs2 im : Int) : opsV o rd rs1 rs2 im = [regT rd, regT rs1, regT rs2] := by
  unfold opsV; rw [if_neg (by omega), if_neg (by omega), if_neg (by omega), if_neg (by omega), if_neg (by omega), if_neg (by omega), if_neg (by omega), if_neg (by omega), if_neg (by omega), if_neg (by omega), if_neg (by omega), if_neg (by omega), if_pos (by omega)]
theorem ops18 {o : Int} (k : 97 < o) (rd rs1 rs2 im : Int) : opsV o rd rs1 rs2 im = [] := by
  unfold opsV; rw [if_neg (by omega), if_neg (by omega), if_neg (by omega), if_neg (by omega), if_neg (by omega), if_neg (by omega), if_neg (by omega), if_neg (by omega), if_neg (by omega), if_neg (by omega), if_neg (by omega), if_neg (by omega), if_neg (by omega)]
/-- A slice of these texts, or none. -/
def Strs (w : World) (v : Value) (l : List Bytes) : Prop :=
  (v = .slice none 0 0 ∧ l = []) ∨ ∃ b, v = .slice (some ⟨b, 0, none⟩) l.length l.length ∧ Row w b 9 (l.map fun s => .string (txt s))
/-- An instruction stands in block b, and the tables where they stood. -/
def HeldT (w0 : World) (b : Nat) (o rd rs1 rs2 im n : Int) (w : World) : Prop :=
  w.cell? ⟨b, 0, none⟩ = some (.int .i64 o) ∧ w.cell? ⟨b, 1, none⟩ = some (.int .i64 rd) ∧ w.cell? ⟨b, 2, none⟩ = some (.int .i64 rs1) ∧ w.cell? ⟨b, 3, none⟩ = some (.int .i64 rs2) ∧ w.cell? ⟨b, 4, none⟩ = some (.int .i64 im) ∧ w.cell? ⟨b, 5, none⟩ = some (.int .i64 n) ∧
  Row w b 23 [.int .i64 o, .int .i64 rd, .int .i64 rs1, .int .i64 rs2, .int .i64 im, .int .i64 n] ∧ Tabs w ∧ w0.grownBy w none
theorem heldT_of {w0 w : World} {b : Nat} {o rd rs1 rs2 im n : Int} (h : Row w b 23 [.int .i64 o, .int .i64 rd, .int .i64 rs1, .int .i64 rs2, .int .i64 im, .int .i64 n]) (hT : Tabs w) (hb : w0.grownBy w none) : HeldT w0 b o rd rs1 rs2 im n w :=
  ⟨h.cell 0, h.cell 1, h.cell 2, h.cell 3, h.cell 4, h.cell 5, h, hT, hb⟩
theorem HeldT.on {w0 w w' : World} {b : Nat} {o rd rs1 rs2 im n : Int} (hg : w.grownBy w' none) (h : HeldT w0 b o rd rs1 rs2 im n w) : HeldT w0 b o rd rs1 rs2 im n w' :=
  heldT_of (h.2.2.2.2.2.2.1.grown hg (by simp)) (h.2.2.2.2.2.2.2.1.grown hg) (gr_trans h.2.2.2.2.2.2.2.2 hg)
theorem HeldT.tabs {w0 w : World} {b : Nat} {o rd rs1 rs2 im n : Int} (h : HeldT w0 b o rd rs1 rs2 im n w) : Tabs w := h.2.2.2.2.2.2.2.1
theorem HeldT.gr {w0 w : World} {b : Nat} {o rd rs1 rs2 im n : Int} (h : HeldT w0 b o rd rs1 rs2 im n w) : w0.grownBy w none := h.2.2.2.2.2.2.2.2
theorem heldT_new (w : World) (hT : Tabs w) (o rd rs1 rs2 im n : Int) : HeldT w w.heap.size o rd rs1 rs2 im n (w.alloc (.cells #[.int .i64 o, .int .i64 rd, .int .i64 rs1, .int .i64 rs2, .int .i64 im, .int .i64 n] 23)) :=
  heldT_of (Row.fresh w _ _) (hT.grown (gr_alloc (gr_refl _ _) _)) (gr_alloc (gr_refl _ _) _)
theorem strs2 (w : World) (a b : Bytes) : Strs (w.alloc (.cells #[.string (txt a), .string (txt b)] 9)) (.slice (some ⟨w.heap.size, 0, none⟩) 2 2) [a, b] := Or.inr ⟨_, rfl, Row.fresh w _ _⟩
theorem strs3 (w : World) (a b c : Bytes) : Strs (w.alloc (.cells #[.string (txt a), .string (txt b), .string (txt c)] 9)) (.slice (some ⟨w.heap.size, 0, none⟩) 3 3) [a, b, c] := Or.inr ⟨_, rfl, Row.fresh w _ _⟩
set_option maxHeartbeats 4000000 in
theorem operands_c (o rd rs1 rs2 im n : Int) (ho : I64 o) (h1 : I64 rd) (h2 : I64 rs1) (h3 : I64 rs2) (hi : I64 im) (w : World) (hT : Tabs w) :
    Calls Tryz.prog 22 #[six o rd rs1 rs2 im n] w fun e w' => ∃ v, e = .returned v ∧ Strs w' v (opsV o rd rs1 rs2 im) ∧ w.grownBy w' none := by
  have hS0 := heldT_new w hT o rd rs1 rs2 im n
  unfold HeldT at hS0
  have H1 := Lib.hid (fun W h => register_c rd h1 W h)
  have H2 := Lib.hid (fun W h => register_c rs1 h2 W h)
  have H3 := Lib.hid (fun W h => register_c rs2 h3 W h)
  have HI := Lib.hid (fun W h => fmtInt_c im hi W h)
  have HK := Lib.hid (fun W h => Kind_c o ho W h)
  have HO := Lib.hid (show ((o ≤ 0) → opsV o rd rs1 rs2 im = []) ∧ ((o = 1) → opsV o rd rs1 rs2 im = [regT rd, Lib.itoa im]) ∧ ((o = 2) → opsV o rd rs1 rs2 im = [regT rd, Lib.itoa im]) ∧ ((o = 3) → opsV o rd rs1 rs2 im = [regT rd, Lib.itoa im]) ∧ ((4 ≤ o ∧ o ≤ 4) → opsV o rd rs1 rs2 im = [regT rd, regT rs1, Lib.itoa im]) ∧ ((5 ≤ o ∧ o ≤ 10) → opsV o rd rs1 rs2 im = [regT rs1, regT rs2, Lib.itoa im]) ∧ ((11 ≤ o ∧ o ≤ 17) → opsV o rd rs1 rs2 im = [regT rd, regT rs1, Lib.itoa im]) ∧ ((18 ≤ o ∧ o ≤ 21) → opsV o rd rs1 rs2 im = [regT rs1, regT rs2, Lib.itoa im]) ∧ ((22 ≤ o ∧ o ≤ 30) → opsV o rd rs1 rs2 im = [regT rd, regT rs1, Lib.itoa im]) ∧ ((31 ≤ o ∧ o ≤ 40) → opsV o rd rs1 rs2 im = [regT rd, regT rs1, regT rs2]) ∧ ((41 ≤ o ∧ o ≤ 44) → opsV o rd rs1 rs2 im = [regT rd, regT rs1, Lib.itoa im]) ∧ ((45 ≤ o ∧ o ≤ 49) → opsV o rd rs1 rs2 im = [regT rd, regT rs1, regT rs2]) ∧ ((50 ≤ o ∧ o ≤ 57) → opsV o rd rs1 rs2 im = [regT rd, regT rs1, regT rs2]) ∧ ((58 ≤ o ∧ o ≤ 62) → opsV o rd rs1 rs2 im = [regT rd, regT rs1, regT rs2]) ∧ ((63 ≤ o ∧ o ≤ 69) → opsV o rd rs1 rs2 im = []) ∧ ((70 ≤ o ∧ o ≤ 75) → opsV o rd rs1 rs2 im = [regT rd, regT rs1, Lib.itoa im]) ∧ ((76 ≤ o ∧ o ≤ 86) → opsV o rd rs1 rs2 im = [regT rd, regT rs1, regT rs2]) ∧ ((87 ≤ o ∧ o ≤ 97) → opsV o rd rs1 rs2 im = [regT rd, regT rs1, regT rs2]) ∧ ((97 < o) → opsV o rd rs1 rs2 im = []) from ⟨fun k => ops0 k _ _ _ _, fun k => ops1 k _ _ _ _, fun k => ops2 k _ _ _ _, fun k => ops3 k _ _ _ _, fun k => ops4 k _ _ _ _, fun k => ops5 k _ _ _ _, fun k => ops6 k _ _ _ _, fun k => ops7 k _ _ _ _, fun k => ops8 k _ _ _ _, fun k => ops9 k _ _ _ _, fun k => ops10 k _ _ _ _, fun k => ops11 k _ _ _ _, fun k => ops12 k _ _ _ _, fun k => ops13 k _ _ _ _, fun k => ops14 k _ _ _ _, fun k => ops15 k _ _ _ _, fun k => ops16 k _ _ _ _, fun k => ops17 k _ _ _ _, fun k => ops18 k _ _ _ _⟩)
  generalize opsV o rd rs1 rs2 im = ov at *
  generalize regT rd = r1 at *
  generalize regT rs1 = r2 at *
  generalize regT rs2 = r3 at *
  generalize Lib.itoa im = r4 at *
  obtain ⟨t1, e1⟩ : ∃ t, t = txt r1 := ⟨_, rfl⟩
  obtain ⟨t2, e2⟩ : ∃ t, t = txt r2 := ⟨_, rfl⟩
  obtain ⟨t3, e3⟩ : ∃ t, t = txt r3 := ⟨_, rfl⟩
  obtain ⟨t4, e4⟩ : ∃ t, t = txt r4 := ⟨_, rfl⟩
  rw [← e1] at H1
  rw [← e2] at H2
  rw [← e3] at H3
  rw [← e4] at HI
  have E1 := Lib.hid e1
  have E2 := Lib.hid e2
  have E3 := Lib.hid e3
  have E4 := Lib.hid e4
  clear e1 e2 e3 e4
  go_enter Tryz.func22, Tryz.ntmps22
  go_wp2_with fail
  generalize w.alloc (.cells #[.int .i64 o, .int .i64 rd, .int .i64 rs1, .int .i64 rs2, .int .i64 im, .int .i64 n] 23) = W at *
  generalize w.heap.size = b at *
  go_region_held3 (fun w' => w'.cell? ⟨b, 0, none⟩ = some (.int .i64 o) ∧ w'.cell? ⟨b, 1, none⟩ = some (.int .i64 rd) ∧ w'.cell? ⟨b, 2, none⟩ = some (.int .i64 rs1) ∧ w'.cell? ⟨b, 3, none⟩ = some (.int .i64 rs2) ∧ w'.cell? ⟨b, 4, none⟩ = some (.int .i64 im) ∧ w'.cell? ⟨b, 5, none⟩ = some (.int .i64 n) ∧ Row w' b 23 [.int .i64 o, .int .i64 rd, .int .i64 rs1, .int .i64 rs2, .int .i64 im, .int .i64 n] ∧ Tabs w' ∧ w.grownBy w' none)
    (first | assumption | (exact HeldT.on (gr_drew (gr_refl _ none)) (by assumption)) | (exact HeldT.on (by assumption) (by assumption)))
    (first
      | (go_at_call 40; refine (H1.out _ (HeldT.tabs (by assumption))).mono ?_; rintro e w' ⟨rfl, hg⟩)
      | (go_at_call 40; refine (H2.out _ (HeldT.tabs (by assumption))).mono ?_; rintro e w' ⟨rfl, hg⟩)
      | (go_at_call 40; refine (H3.out _ (HeldT.tabs (by assumption))).mono ?_; rintro e w' ⟨rfl, hg⟩))
  rename_i wS hHeld
  have HS := Lib.hid hHeld
  clear hHeld
  have c4 := HS.out.2.2.2.2.1
  go_wp2_with fail
  refine (HI.out _ (HeldT.tabs HS.out)).mono ?_
  rintro e w2 ⟨rfl, hG2⟩
  have HS2 := Lib.hid (HeldT.on hG2 HS.out)
  clear c4 hG2
  have c0 := HS2.out.1
  go_wp2_with fail
  refine (HK.out _ (HeldT.tabs HS2.out).1).mono ?_
  rintro e w' ⟨rfl, rfl⟩
  clear hS0
  have HG := Lib.hid (HeldT.gr HS2.out)
  have o4 := HO.out
  clear HO H1 H2 H3 HI HK
  rcases (show (o ≤ 0) ∨ (o = 1) ∨ (o = 2) ∨ (o = 3) ∨ (4 ≤ o ∧ o ≤ 4) ∨ (5 ≤ o ∧ o ≤ 10) ∨ (11 ≤ o ∧ o ≤ 17) ∨ (18 ≤ o ∧ o ≤ 21) ∨ (22 ≤ o ∧ o ≤ 30) ∨ (31 ≤ o ∧ o ≤ 40) ∨ (41 ≤ o ∧ o ≤ 44) ∨ (45 ≤ o ∧ o ≤ 49) ∨ (50 ≤ o ∧ o ≤ 57) ∨ (58 ≤ o ∧ o ≤ 62) ∨ (63 ≤ o ∧ o ≤ 69) ∨ (70 ≤ o ∧ o ≤ 75) ∨ (76 ≤ o ∧ o ≤ 86) ∨ (87 ≤ o ∧ o ≤ 97) ∨ (97 < o) by omega) with k | k | k | k | k | k | k | k | k | k | k | k | k | k | k | k | k | k | k
  · have HV := Lib.hid (o4.1 k)
    have HQ := Lib.hid (show kindV o = 0 from kind0 k)
    clear o4
    rw [HQ.out]
    go_wp2_with fail
    go_ret
    exact ⟨_, rfl, Or.inl ⟨rfl, HV.out⟩, HG.out⟩
  · have HV := Lib.hid (o4.2.1 k)
    have HQ := Lib.hid (show kindV o = 1 from kind1 (by omega))
    clear o4
    rw [HQ.out]
    have c0' := c0
    subst k
    go_wp2_with fail
    go_ret
    refine ⟨_, rfl, ?_, gr_alloc HG.out _⟩
    rw [HV.out]
    rw [E1.out, E4.out]
    exact strs2 _ _ _
  · have HV := Lib.hid (o4.2.2.1 k)
    have HQ := Lib.hid (show kindV o = 1 from kind1 (by omega))
    clear o4
    rw [HQ.out]
    have c0' := c0
    subst k
    go_wp2_with fail
    go_ret
    refine ⟨_, rfl, ?_, gr_alloc HG.out _⟩
    rw [HV.out]
    rw [E1.out, E4.out]
    exact strs2 _ _ _
  · have HV := Lib.hid (o4.2.2.2.1 k)
    have HQ := Lib.hid (show kindV o = 1 from kind1 (by omega))
    clear o4
    rw [HQ.out]
    have c0' := c0
    subst k
    go_wp2_with fail
    go_ret
    refine ⟨_, rfl, ?_, gr_alloc HG.out _⟩
    rw [HV.out]
    rw [E1.out, E4.out]
    exact strs2 _ _ _
  · have HV := Lib.hid (o4.2.2.2.2.1 k)
    have HQ := Lib.hid (show kindV o = 1 from kind1 (by omega))
    clear o4
    rw [HQ.out]
    obtain rfl : o = 4 := by omega
    go_wp2_with fail
    go_ret
    refine ⟨_, rfl, ?_, gr_alloc HG.out _⟩
    rw [HV.out]
    rw [E1.out, E2.out, E4.out]
    exact strs3 _ _ _ _
  · have HV := Lib.hid (o4.2.2.2.2.2.1 k)
    have HQ := Lib.hid (show kindV o = 2 from kind2 k)
    clear o4
    rw [HQ.out]
    go_wp2_with fail
    go_ret
    refine ⟨_, rfl, ?_, gr_alloc HG.out _⟩
    rw [HV.out]
    rw [E2.out, E3.out, E4.out]
    exact strs3 _ _ _ _
  · have HV := Lib.hid (o4.2.2.2.2.2.2.1 k)
    have HQ := Lib.hid (show kindV o = 3 from kind3 k)
    clear o4
    rw [HQ.out]
    have n1 : (o == 1) = false := by simp; omega
    have n2 : (o == 2) = false := by simp; omega
    have n3 : (o == 3) = false := by simp; omega
    go_wp2_with fail
    go_ret
    refine ⟨_, rfl, ?_, gr_alloc HG.out _⟩
    rw [HV.out]
    rw [E1.out, E2.out, E4.out]
    exact strs3 _ _ _ _
  · have HV := Lib.hid (o4.2.2.2.2.2.2.2.1 k)
    have HQ := Lib.hid (show kindV o = 4 from kind4 k)
    clear o4
    rw [HQ.out]
    go_wp2_with fail
    go_ret
    refine ⟨_, rfl, ?_, gr_alloc HG.out _⟩
    rw [HV.out]
    rw [E2.out, E3.out, E4.out]
    exact strs3 _ _ _ _
  · have HV := Lib.hid (o4.2.2.2.2.2.2.2.2.1 k)
    have HQ := Lib.hid (show kindV o = 5 from kind5 k)
    clear o4
    rw [HQ.out]
    have n1 : (o == 1) = false := by simp; omega
    have n2 : (o == 2) = false := by simp; omega
    have n3 : (o == 3) = false := by simp; omega
    go_wp2_with fail
    go_ret
    refine ⟨_, rfl, ?_, gr_alloc HG.out _⟩
    rw [HV.out]
    rw [E1.out, E2.out, E4.out]
    exact strs3 _ _ _ _
  · have HV := Lib.hid (o4.2.2.2.2.2.2.2.2.2.1 k)
    have HQ := Lib.hid (show kindV o = 6 from kind6 k)
    clear o4
    rw [HQ.out]
    go_wp2_with fail
    go_ret
    refine ⟨_, rfl, ?_, gr_alloc HG.out _⟩
    rw [HV.out]
    rw [E1.out, E2.out, E3.out]
    exact strs3 _ _ _ _
  · have HV := Lib.hid (o4.2.2.2.2.2.2.2.2.2.2.1 k)
    have HQ := Lib.hid (show kindV o = 7 from kind7 k)
    clear o4
    rw [HQ.out]
    have n1 : (o == 1) = false := by simp; omega
    have n2 : (o == 2) = false := by simp; omega
    have n3 : (o == 3) = false := by simp; omega
    go_wp2_with fail
    go_ret
    refine ⟨_, rfl, ?_, gr_alloc HG.out _⟩
    rw [HV.out]
    rw [E1.out, E2.out, E4.out]
    exact strs3 _ _ _ _
  · have HV := Lib.hid (o4.2.2.2.2.2.2.2.2.2.2.2.1 k)
    have HQ := Lib.hid (show kindV o = 8 from kind8 k)
    clear o4
    rw [HQ.out]
    go_wp2_with fail
    go_ret
    refine ⟨_, rfl, ?_, gr_alloc HG.out _⟩
    rw [HV.out]
    rw [E1.out, E2.out, E3.out]
    exact strs3 _ _ _ _
  · have HV := Lib.hid (o4.2.2.2.2.2.2.2.2.2.2.2.2.1 k)
    have HQ := Lib.hid (show kindV o = 9 from kind9 k)
    clear o4
    rw [HQ.out]
    go_wp2_with fail
    go_ret
    refine ⟨_, rfl, ?_, gr_alloc HG.out _⟩
    rw [HV.out]
    rw [E1.out, E2.out, E3.out]
    exact strs3 _ _ _ _
  · have HV := Lib.hid (o4.2.2.2.2.2.2.2.2.2.2.2.2.2.1 k)
    have HQ := Lib.hid (show kindV o = 10 from kind10 k)
    clear o4
    rw [HQ.out]
    go_wp2_with fail
    go_ret
    refine ⟨_, rfl, ?_, gr_alloc HG.out _⟩
    rw [HV.out]
    rw [E1.out, E2.out, E3.out]
    exact strs3 _ _ _ _
  · have HV := Lib.hid (o4.2.2.2.2.2.2.2.2.2.2.2.2.2.2.1 k)
    have HQ := Lib.hid (show kindV o = 11 from kind11 k)
    clear o4
    rw [HQ.out]
    go_wp2_with fail
    go_ret
    exact ⟨_, rfl, Or.inl ⟨rfl, HV.out⟩, HG.out⟩
  · have HV := Lib.hid (o4.2.2.2.2.2.2.2.2.2.2.2.2.2.2.2.1 k)
    have HQ := Lib.hid (show kindV o = 12 from kind12 k)
    clear o4
    rw [HQ.out]
    have n1 : (o == 1) = false := by simp; omega
    have n2 : (o == 2) = false := by simp; omega
    have n3 : (o == 3) = false := by simp; omega
    go_wp2_with fail
    go_ret
    refine ⟨_, rfl, ?_, gr_alloc HG.out _⟩
    rw [HV.out]
    rw [E1.out, E2.out, E4.out]
    exact strs3 _ _ _ _
  · have HV := Lib.hid (o4.2.2.2.2.2.2.2.2.2.2.2.2.2.2.2.2.1 k)
    have HQ := Lib.hid (show kindV o = 13 from kind13 k)
    clear o4
    rw [HQ.out]
    go_wp2_with fail
    go_ret
    refine ⟨_, rfl, ?_, gr_alloc HG.out _⟩
    rw [HV.out]
    rw [E1.out, E2.out, E3.out]
    exact strs3 _ _ _ _
  · have HV := Lib.hid (o4.2.2.2.2.2.2.2.2.2.2.2.2.2.2.2.2.2.1 k)
    have HQ := Lib.hid (show kindV o = 14 from kind14 k)
    clear o4
    rw [HQ.out]
    go_wp2_with fail
    go_ret
    refine ⟨_, rfl, ?_, gr_alloc HG.out _⟩
    rw [HV.out]
    rw [E1.out, E2.out, E3.out]
    exact strs3 _ _ _ _
  · have HV := Lib.hid (o4.2.2.2.2.2.2.2.2.2.2.2.2.2.2.2.2.2.2 k)
    have HQ := Lib.hid (show kindV o = 0 from kind_none o k)
    clear o4
    rw [HQ.out]
    go_wp2_with fail
    go_ret
    exact ⟨_, rfl, Or.inl ⟨rfl, HV.out⟩, HG.out⟩
end Go.Proofs.YtpbeamnogfjagaaGreatDoor.E
