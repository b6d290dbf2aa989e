/-
  What the program's tables hold where its text lays them: kinds, names, powers of ten; and what package enc's Name is: contracts over the program's translation.
  What package enc's Text is: contracts over the program's translation.
  What package enc's Text is: a contract over the program's translation.
  The document's example, as the head of layer 6's statements has it: it answers true; and what the laws of this layer take of Word and of the document's own Word.
  A block that is laid makes memory one block longer.
  Conditions: each part's own: the arguments are numbers of their kinds; the tables hold what the program's text lays.
-/
import Derived.Test.YtpbeamnogfjagaaGreatDoorEncM1
import Derived.Test.YtpbeamnogfjagaaGreatDoorDecK
import Derived.Lib.LaidTab
import Derived.Lib.ItoaNum
import Derived.Test.YtpbeamnogfjagaaGreatDoorShelf
import Derived.Lib.ItoaLen
import Derived.Sort.Grow
import Derived.Laws.AppendOwnNone
import Derived.Test.YtpbeamnogfjagaaGreatDoorEncM2
import Derived.Test.YtpbeamnogfjagaaGreatDoorDecWR
import Derived.Lib.Hide
section
namespace Go.Proofs.YtpbeamnogfjagaaGreatDoor.E
open Go Go.RowKit F W M D
set_option linter.unusedVariables false
set_option maxRecDepth 100000

/-- The names stand where the program's text lays them. -/
def Nam (w : World) : Prop := (∀ i, i < 76 → w.cell? ⟨0, i, none⟩ = some (.string (txt (namL.getD i [])))) ∧ ∀ i, i < 11 → w.cell? ⟨1, i, none⟩ = some (.string (txt (atoL.getD i [])))
theorem Nam.grown {w w' : World} (h : Nam w) (hg : w.grownBy w' none) : Nam w' := by
  have h0 : 0 < w.heap.size := block_lt_of_cell (h.1 0 (by omega))
  have h1 : 1 < w.heap.size := block_lt_of_cell (h.2 0 (by omega))
  constructor
  · intro i hi
    rw [← h.1 i hi]; simp [World.cell?, hg.block 0 h0 (by simp)]
  · intro i hi
    rw [← h.2 i hi]; simp [World.cell?, hg.block 1 h1 (by simp)]
theorem txt_size (l : Bytes) : (txt l).size = l.length := by simp [txt, ByteArray.size]
theorem ato_len (n : Nat) (hn : n < 11) : (atoL.getD n []).length ≤ 100 := by
  have : ∀ n, n < 11 → (atoL.getD n []).length ≤ 100 := by decide +kernel
  exact this n hn
set_option maxHeartbeats 1000000 in
theorem Name_c (o : Int) (ho : -9223372036854775808 ≤ o ∧ o ≤ 9223372036854775807) (w : World) (h : Nam w) :
    Calls Tryz.prog 11 #[.int .i64 o] w fun e w' => e = .returned (.string (txt (nameV o))) ∧ w = w' := by
  rcases (show o < 0 ∨ 97 < o ∨ (0 ≤ o ∧ o < 76) ∨ (76 ≤ o ∧ o < 87) ∨ (87 ≤ o ∧ o ≤ 97) by omega) with k | k | k | k | k
  · rw [nameV, if_pos (by omega)]
    go_enter Tryz.func11, Tryz.ntmps11
    go_wp2_with fail
    go_ret
    exact ⟨rfl, rfl⟩
  · rw [nameV, if_pos (by omega)]
    go_enter Tryz.func11, Tryz.ntmps11
    go_wp2_with fail
    go_ret
    exact ⟨rfl, rfl⟩
  · rw [nameV, if_neg (by omega), if_pos (by omega)]
    obtain ⟨n, rfl⟩ : ∃ n : Nat, o = n := ⟨o.toNat, by omega⟩
    rw [Int.toNat_natCast]
    have c := h.1 n (by omega)
    generalize txt (namL.getD n []) = s at *
    go_enter Tryz.func11, Tryz.ntmps11
    go_wp2_with fail
    go_ret
    exact ⟨rfl, rfl⟩
  · rw [nameV, if_neg (by omega), if_neg (by omega), if_pos (by omega)]
    obtain ⟨n, rfl⟩ : ∃ n : Nat, o = 76 + (n : Int) := ⟨(o - 76).toNat, by omega⟩
    rw [show (76 + (n : Int) - 76).toNat = n by omega]
    have c := h.2 n (by omega)
    have e : (76 + (n : Int) - 76) = n := by omega
    have HA := Lib.hid (txt_app (atoL.getD n []) [119])
    obtain ⟨s, hs⟩ : ∃ s, s = txt (atoL.getD n []) := ⟨_, rfl⟩
    rw [← hs] at c HA
    have hz : s.size ≤ 100 := by rw [hs, txt_size]; exact ato_len n (by omega)
    clear hs
    go_enter Tryz.func11, Tryz.ntmps11
    go_wp2_with fail
    go_ret
    exact ⟨by rw [← HA.out]; rfl, rfl⟩
  · rw [nameV, if_neg (by omega), if_neg (by omega), if_neg (by omega)]
    obtain ⟨n, rfl⟩ : ∃ n : Nat, o = 87 + (n : Int) := ⟨(o - 87).toNat, by omega⟩
    rw [show (87 + (n : Int) - 87).toNat = n by omega]
    have c := h.2 n (by omega)
    have e : (87 + (n : Int) - 87) = n := by omega
    have HA := Lib.hid (txt_app (atoL.getD n []) [100])
    obtain ⟨s, hs⟩ : ∃ s, s = txt (atoL.getD n []) := ⟨_, rfl⟩
    rw [← hs] at c HA
    have hz : s.size ≤ 100 := by rw [hs, txt_size]; exact ato_len n (by omega)
    clear hs
    go_enter Tryz.func11, Tryz.ntmps11
    go_wp2_with fail
    go_ret
    exact ⟨by rw [← HA.out]; rfl, rfl⟩
/-- All that the laws of this layer take of the program's tables. -/
def Tabs (w : World) : Prop := Tbl w ∧ Nam w ∧ Lib.TabIs Tryz.prog w "internal/strconv.uint64pow10" .u64 Lib.pow10Tab
theorem tab_grown {P : Program} {w w' : World} {name : String} {k : IntKind} {zs : List Int} (h : Lib.TabIs P w name k zs) (hg : w.grownBy w' none) : Lib.TabIs P w' name k zs := by
  unfold Lib.TabIs World.var? at *
  cases hn : P.globalNamed name with
  | none => rw [hn] at h; simp at h
  | some g =>
    rw [hn] at h
    simp only [Option.bind_some] at h ⊢
    have hlt : g < w.heap.size := by
      apply Classical.byContradiction
      intro hc
      rw [Array.getElem?_eq_none (by omega)] at h
      simp at h
    rw [hg.block g hlt (by simp)]
    exact h
theorem Tabs.grown {w w' : World} (h : Tabs w) (hg : w.grownBy w' none) : Tabs w' := ⟨h.1.grown hg, h.2.1.grown hg, tab_grown h.2.2 hg⟩
end Go.Proofs.YtpbeamnogfjagaaGreatDoor.E
end

section
namespace Go.Proofs.YtpbeamnogfjagaaGreatDoor.E
open Go Go.RowKit Go.Sort F W M D
set_option linter.unusedVariables false
set_option maxRecDepth 100000

theorem gr_grow (w : World) (k : Nat) (os : Array Obj) : w.grownBy (Sort.grow (w.drewN k) os) none := by
  have h := gr_drewN (gr_refl w none) k
  refine ⟨h.os, h.tape, h.output, by simp [Sort.grow], ?_⟩
  intro i hi hne
  have hs : ¬ w.heap.size ≤ i := by omega
  rw [← h.block i hi hne]
  simp [Sort.grow, Array.getElem?_append]
  intro hc
  exact absurd hc hs
theorem itoa_c (n : Int) (hn : I64 n) (w : World) (h : Tabs w) :
    Calls Tryz.prog 24 #[.int .i64 n] w fun e w' => e = .returned (.string (txt (Lib.itoa n))) ∧ w.grownBy w' none :=
  (Tryz.strconv_Itoa n hn.1 hn.2 w h.2.2).mono fun e w' ⟨he, k, os, hw⟩ => ⟨he, by rw [hw]; exact gr_grow w k os⟩
theorem fmtInt_c (n : Int) (hn : I64 n) (w : World) (h : Tabs w) :
    Calls Tryz.prog 41 #[.int .i64 n, .int .i64 10] w fun e w' => e = .returned (.string (txt (Lib.itoa n))) ∧ w.grownBy w' none :=
  (Tryz.strconv_FormatInt_10 n hn.1 hn.2 w h.2.2).mono fun e w' ⟨he, k, os, hw⟩ => ⟨he, by rw [hw]; exact gr_grow w k os⟩
/-- A register, as text. -/
def regT (r : Int) : Bytes := 120 :: Lib.itoa r
theorem itoa_size (n : Int) (hn : I64 n) : (txt (Lib.itoa n)).size ≤ 21 := by rw [txt_size]; exact Lib.itoa_length_le n hn.1 hn.2
theorem register_c (r : Int) (hr : I64 r) (w : World) (h : Tabs w) :
    Calls Tryz.prog 40 #[.int .i64 r] w fun e w' => e = .returned (.string (txt (regT r))) ∧ w.grownBy w' none := by
  have HA := Lib.hid (show txt (regT r) = txt [120] ++ txt (Lib.itoa r) from by rw [txt_app]; rfl)
  have hz := itoa_size r hr
  have HC := Lib.hid (itoa_c r hr w h)
  obtain ⟨s, hs⟩ : ∃ s, s = txt (Lib.itoa r) := ⟨_, rfl⟩
  rw [← hs] at HA HC hz
  clear hs
  go_enter Tryz.func40, Tryz.ntmps40
  go_wp2_with fail
  refine HC.out.mono ?_
  rintro e w1 ⟨rfl, hG⟩
  go_wp2_with fail
  go_ret
  exact ⟨by rw [HA.out]; rfl, hG⟩
/-- The texts behind the name. -/
def opsV (o rd rs1 rs2 im : Int) : List Bytes :=
  if o ≤ 0 then [] else if o ≤ 3 then [regT rd, Lib.itoa im] else if o ≤ 4 then [regT rd, regT rs1, Lib.itoa im] else if o ≤ 10 then [regT rs1, regT rs2, Lib.itoa im] else if o ≤ 17 then [regT rd, regT rs1, Lib.itoa im]
  else if o ≤ 21 then [regT rs1, regT rs2, Lib.itoa im] else if o ≤ 30 then [regT rd, regT rs1, Lib.itoa im] else if o ≤ 40 then [regT rd, regT rs1, regT rs2] else if o ≤ 44 then [regT rd, regT rs1, Lib.itoa im]
  else if o ≤ 62 then [regT rd, regT rs1, regT rs2] else if o ≤ 69 then [] else if o ≤ 75 then [regT rd, regT rs1, Lib.itoa im] else if o ≤ 97 then [regT rd, regT rs1, regT rs2] else []
theorem ops0 {o : Int} (k : o ≤ 0) (rd rs1 rs2 im : Int) : opsV o rd rs1 rs2 im = [] := by
  unfold opsV; rw [if_pos (by omega)]
theorem ops1 {o : Int} (k : o = 1) (rd rs1 rs2 im : Int) : opsV o rd rs1 rs2 im = [regT rd, Lib.itoa im] := by
  unfold opsV; rw [if_neg (by omega), if_pos (by omega)]
theorem ops2 {o : Int} (k : o = 2) (rd rs1 rs2 im : Int) : opsV o rd rs1 rs2 im = [regT rd, Lib.itoa im] := by
  unfold opsV; rw [if_neg (by omega), if_pos (by omega)]
theorem ops3 {o : Int} (k : o = 3) (rd rs1 rs2 im : Int) : opsV o rd rs1 rs2 im = [regT rd, Lib.itoa im] := by
  unfold opsV; rw [if_neg (by omega), if_pos (by omega)]
theorem ops4 {o : Int} (k : 4 ≤ o ∧ o ≤ 4) (rd rs1 rs2 im : Int) : opsV o rd rs1 rs2 im = [regT rd, regT rs1, Lib.itoa im] := by
  unfold opsV; rw [if_neg (by omega), if_neg (by omega), if_pos (by omega)]
theorem ops5 {o : Int} (k : 5 ≤ o ∧ o ≤ 10) (rd rs1 rs2 im : Int) : opsV o rd rs1 rs2 im = [regT rs1, regT rs2, Lib.itoa im] := by
  unfold opsV; rw [if_neg (by omega), if_neg (by omega), if_neg (by omega), if_pos (by omega)]
theorem ops6 {o : Int} (k : 11 ≤ o ∧ o ≤ 17) (rd rs1 rs2 im : Int) : opsV o rd rs1 rs2 im = [regT rd, regT rs1, Lib.itoa im] := by
  unfold opsV; rw [if_neg (by omega), if_neg (by omega), if_neg (by omega), if_neg (by omega), if_pos (by omega)]
theorem ops7 {o : Int} (k : 18 ≤ o ∧ o ≤ 21) (rd rs1 rs2 im : Int) : opsV o rd rs1 rs2 im = [regT rs1, regT rs2, Lib.itoa im] := by
  unfold opsV; rw [if_neg (by omega), if_neg (by omega), if_neg (by omega), if_neg (by omega), if_neg (by omega), if_pos (by omega)]
theorem ops8 {o : Int} (k : 22 ≤ o ∧ o ≤ 30) (rd rs1 rs2 im : Int) : opsV o rd rs1 rs2 im = [regT rd, regT rs1, Lib.itoa im] := by
  unfold opsV; rw [if_neg (by omega), if_neg (by omega), if_neg (by omega), if_neg (by omega), if_neg (by omega), if_neg (by omega), if_pos (by omega)]
theorem ops9 {o : Int} (k : 31 ≤ o ∧ o ≤ 40) (rd rs1 rs2 im : Int) : opsV o rd rs1 rs2 im = [regT rd, regT rs1, regT rs2] := by
  unfold opsV; rw [if_neg (by omega), if_neg (by omega), if_neg (by omega), if_neg (by omega), if_neg (by omega), if_neg (by omega), if_neg (by omega), if_pos (by omega)]
theorem ops10 {o : Int} (k : 41 ≤ o ∧ o ≤ 44) (rd rs1 rs2 im : Int) : opsV o rd rs1 rs2 im = [regT rd, regT rs1, Lib.itoa im] := by
  unfold opsV; rw [if_neg (by omega), if_neg (by omega), if_neg (by omega), if_neg (by omega), if_neg (by omega), if_neg (by omega), if_neg (by omega), if_neg (by omega), if_pos (by omega)]
theorem ops11 {o : Int} (k : 45 ≤ o ∧ o ≤ 49) (rd rs1 rs2 im : Int) : opsV o rd rs1 rs2 im = [regT rd, regT rs1, regT rs2] := by
  unfold opsV; rw [if_neg (by omega), if_neg (by omega), if_neg (by omega), if_neg (by omega), if_neg (by omega), if_neg (by omega), if_neg (by omega), if_neg (by omega), if_neg (by omega), if_pos (by omega)]
theorem ops12 {o : Int} (k : 50 ≤ o ∧ o ≤ 57) (rd rs1 rs2 im : Int) : opsV o rd rs1 rs2 im = [regT rd, regT rs1, regT rs2] := by
  unfold opsV; rw [if_neg (by omega), if_neg (by omega), if_neg (by omega), if_neg (by omega), if_neg (by omega), if_neg (by omega), if_neg (by omega), if_neg (by omega), if_neg (by omega), if_pos (by omega)]
theorem ops13 {o : Int} (k : 58 ≤ o ∧ o ≤ 62) (rd rs1 rs2 im : Int) : opsV o rd rs1 rs2 im = [regT rd, regT rs1, regT rs2] := by
  unfold opsV; rw [if_neg (by omega), if_neg (by omega), if_neg (by omega), if_neg (by omega), if_neg (by omega), if_neg (by omega), if_neg (by omega), if_neg (by omega), if_neg (by omega), if_pos (by omega)]
theorem ops14 {o : Int} (k : 63 ≤ o ∧ o ≤ 69) (rd rs1 rs2 im : Int) : opsV o rd rs1 rs2 im = [] := by
  unfold opsV; rw [if_neg (by omega), if_neg (by omega), if_neg (by omega), if_neg (by omega), if_neg (by omega), if_neg (by omega), if_neg (by omega), if_neg (by omega), if_neg (by omega), if_neg (by omega), if_pos (by omega)]
theorem ops15 {o : Int} (k : 70 ≤ o ∧ o ≤ 75) (rd rs1 rs2 im : Int) : opsV o rd rs1 rs2 im = [regT rd, regT rs1, Lib.itoa im] := by
  unfold opsV; rw [if_neg (by omega), if_neg (by omega), if_neg (by omega), if_neg (by omega), if_neg (by omega), if_neg (by omega), if_neg (by omega), if_neg (by omega), if_neg (by omega), if_neg (by omega), if_neg (by omega), if_pos (by omega)]
theorem ops16 {o : Int} (k : 76 ≤ o ∧ o ≤ 86) (rd rs1 rs2 im : Int) : opsV o rd rs1 rs2 im = [regT rd, regT rs1, regT rs2] := by
  unfold opsV; rw [if_neg (by omega), if_neg (by omega), if_neg (by omega), if_neg (by omega), if_neg (by omega), if_neg (by omega), if_neg (by omega), if_neg (by omega), if_neg (by omega), if_neg (by omega), if_neg (by omega), if_neg (by omega), if_pos (by omega)]
theorem ops17 {o : Int} (k : 87 ≤ o ∧ o ≤ 97) (rd rs1 rs2 im : Int) : opsV o rd rs1 rs2 im = [regT rd, regT rs1, regT rs2] := by
  unfold opsV; rw [if_neg (by omega), if_neg (by omega), if_neg (by omega), if_neg (by omega), if_neg (by omega), if_neg (by omega), if_neg (by omega), if_neg (by omega), if_neg (by omega), if_neg (by omega), if_neg (by omega), if_neg (by omega), if_pos (by omega)]
theorem ops18 {o : Int} (k : 97 < o) (rd rs1 rs2 im : Int) : opsV o rd rs1 rs2 im = [] := by
  unfold opsV; rw [if_neg (by omega), if_neg (by omega), if_neg (by omega), if_neg (by omega), if_neg (by omega), if_neg (by omega), if_neg (by omega), if_neg (by omega), if_neg (by omega), if_neg (by omega), if_neg (by omega), if_neg (by omega), if_neg (by omega)]
/-- A slice of these texts, or none. -/
def Strs (w : World) (v : Value) (l : List Bytes) : Prop :=
  (v = .slice none 0 0 ∧ l = []) ∨ ∃ b, v = .slice (some ⟨b, 0, none⟩) l.length l.length ∧ Row w b 9 (l.map fun s => .string (txt s))
/-- An instruction stands in block b, and the tables where they stood. -/
def HeldT (w0 : World) (b : Nat) (o rd rs1 rs2 im n : Int) (w : World) : Prop :=
  w.cell? ⟨b, 0, none⟩ = some (.int .i64 o) ∧ w.cell? ⟨b, 1, none⟩ = some (.int .i64 rd) ∧ w.cell? ⟨b, 2, none⟩ = some (.int .i64 rs1) ∧ w.cell? ⟨b, 3, none⟩ = some (.int .i64 rs2) ∧ w.cell? ⟨b, 4, none⟩ = some (.int .i64 im) ∧ w.cell? ⟨b, 5, none⟩ = some (.int .i64 n) ∧
  Row w b 23 [.int .i64 o, .int .i64 rd, .int .i64 rs1, .int .i64 rs2, .int .i64 im, .int .i64 n] ∧ Tabs w ∧ w0.grownBy w none
theorem heldT_of {w0 w : World} {b : Nat} {o rd rs1 rs2 im n : Int} (h : Row w b 23 [.int .i64 o, .int .i64 rd, .int .i64 rs1, .int .i64 rs2, .int .i64 im, .int .i64 n]) (hT : Tabs w) (hb : w0.grownBy w none) : HeldT w0 b o rd rs1 rs2 im n w :=
  ⟨h.cell 0, h.cell 1, h.cell 2, h.cell 3, h.cell 4, h.cell 5, h, hT, hb⟩
theorem HeldT.on {w0 w w' : World} {b : Nat} {o rd rs1 rs2 im n : Int} (hg : w.grownBy w' none) (h : HeldT w0 b o rd rs1 rs2 im n w) : HeldT w0 b o rd rs1 rs2 im n w' :=
  heldT_of (h.2.2.2.2.2.2.1.grown hg (by simp)) (h.2.2.2.2.2.2.2.1.grown hg) (gr_trans h.2.2.2.2.2.2.2.2 hg)
theorem HeldT.tabs {w0 w : World} {b : Nat} {o rd rs1 rs2 im n : Int} (h : HeldT w0 b o rd rs1 rs2 im n w) : Tabs w := h.2.2.2.2.2.2.2.1
theorem HeldT.gr {w0 w : World} {b : Nat} {o rd rs1 rs2 im n : Int} (h : HeldT w0 b o rd rs1 rs2 im n w) : w0.grownBy w none := h.2.2.2.2.2.2.2.2
theorem heldT_new (w : World) (hT : Tabs w) (o rd rs1 rs2 im n : Int) : HeldT w w.heap.size o rd rs1 rs2 im n (w.alloc (.cells #[.int .i64 o, .int .i64 rd, .int .i64 rs1, .int .i64 rs2, .int .i64 im, .int .i64 n] 23)) :=
  heldT_of (Row.fresh w _ _) (hT.grown (gr_alloc (gr_refl _ _) _)) (gr_alloc (gr_refl _ _) _)
theorem strs2 (w : World) (a b : Bytes) : Strs (w.alloc (.cells #[.string (txt a), .string (txt b)] 9)) (.slice (some ⟨w.heap.size, 0, none⟩) 2 2) [a, b] := Or.inr ⟨_, rfl, Row.fresh w _ _⟩
theorem strs3 (w : World) (a b c : Bytes) : Strs (w.alloc (.cells #[.string (txt a), .string (txt b), .string (txt c)] 9)) (.slice (some ⟨w.heap.size, 0, none⟩) 3 3) [a, b, c] := Or.inr ⟨_, rfl, Row.fresh w _ _⟩
set_option maxHeartbeats 4000000 in
theorem operands_c (o rd rs1 rs2 im n : Int) (ho : I64 o) (h1 : I64 rd) (h2 : I64 rs1) (h3 : I64 rs2) (hi : I64 im) (w : World) (hT : Tabs w) :
    Calls Tryz.prog 22 #[six o rd rs1 rs2 im n] w fun e w' => ∃ v, e = .returned v ∧ Strs w' v (opsV o rd rs1 rs2 im) ∧ w.grownBy w' none := by
  have hS0 := heldT_new w hT o rd rs1 rs2 im n
  unfold HeldT at hS0
  have H1 := Lib.hid (fun W h => register_c rd h1 W h)
  have H2 := Lib.hid (fun W h => register_c rs1 h2 W h)
  have H3 := Lib.hid (fun W h => register_c rs2 h3 W h)
  have HI := Lib.hid (fun W h => fmtInt_c im hi W h)
  have HK := Lib.hid (fun W h => Kind_c o ho W h)
  have HO := Lib.hid (show ((o ≤ 0) → opsV o rd rs1 rs2 im = []) ∧ ((o = 1) → opsV o rd rs1 rs2 im = [regT rd, Lib.itoa im]) ∧ ((o = 2) → opsV o rd rs1 rs2 im = [regT rd, Lib.itoa im]) ∧ ((o = 3) → opsV o rd rs1 rs2 im = [regT rd, Lib.itoa im]) ∧ ((4 ≤ o ∧ o ≤ 4) → opsV o rd rs1 rs2 im = [regT rd, regT rs1, Lib.itoa im]) ∧ ((5 ≤ o ∧ o ≤ 10) → opsV o rd rs1 rs2 im = [regT rs1, regT rs2, Lib.itoa im]) ∧ ((11 ≤ o ∧ o ≤ 17) → opsV o rd rs1 rs2 im = [regT rd, regT rs1, Lib.itoa im]) ∧ ((18 ≤ o ∧ o ≤ 21) → opsV o rd rs1 rs2 im = [regT rs1, regT rs2, Lib.itoa im]) ∧ ((22 ≤ o ∧ o ≤ 30) → opsV o rd rs1 rs2 im = [regT rd, regT rs1, Lib.itoa im]) ∧ ((31 ≤ o ∧ o ≤ 40) → opsV o rd rs1 rs2 im = [regT rd, regT rs1, regT rs2]) ∧ ((41 ≤ o ∧ o ≤ 44) → opsV o rd rs1 rs2 im = [regT rd, regT rs1, Lib.itoa im]) ∧ ((45 ≤ o ∧ o ≤ 49) → opsV o rd rs1 rs2 im = [regT rd, regT rs1, regT rs2]) ∧ ((50 ≤ o ∧ o ≤ 57) → opsV o rd rs1 rs2 im = [regT rd, regT rs1, regT rs2]) ∧ ((58 ≤ o ∧ o ≤ 62) → opsV o rd rs1 rs2 im = [regT rd, regT rs1, regT rs2]) ∧ ((63 ≤ o ∧ o ≤ 69) → opsV o rd rs1 rs2 im = []) ∧ ((70 ≤ o ∧ o ≤ 75) → opsV o rd rs1 rs2 im = [regT rd, regT rs1, Lib.itoa im]) ∧ ((76 ≤ o ∧ o ≤ 86) → opsV o rd rs1 rs2 im = [regT rd, regT rs1, regT rs2]) ∧ ((87 ≤ o ∧ o ≤ 97) → opsV o rd rs1 rs2 im = [regT rd, regT rs1, regT rs2]) ∧ ((97 < o) → opsV o rd rs1 rs2 im = []) from ⟨fun k => ops0 k _ _ _ _, fun k => ops1 k _ _ _ _, fun k => ops2 k _ _ _ _, fun k => ops3 k _ _ _ _, fun k => ops4 k _ _ _ _, fun k => ops5 k _ _ _ _, fun k => ops6 k _ _ _ _, fun k => ops7 k _ _ _ _, fun k => ops8 k _ _ _ _, fun k => ops9 k _ _ _ _, fun k => ops10 k _ _ _ _, fun k => ops11 k _ _ _ _, fun k => ops12 k _ _ _ _, fun k => ops13 k _ _ _ _, fun k => ops14 k _ _ _ _, fun k => ops15 k _ _ _ _, fun k => ops16 k _ _ _ _, fun k => ops17 k _ _ _ _, fun k => ops18 k _ _ _ _⟩)
  generalize opsV o rd rs1 rs2 im = ov at *
  generalize regT rd = r1 at *
  generalize regT rs1 = r2 at *
  generalize regT rs2 = r3 at *
  generalize Lib.itoa im = r4 at *
  obtain ⟨t1, e1⟩ : ∃ t, t = txt r1 := ⟨_, rfl⟩
  obtain ⟨t2, e2⟩ : ∃ t, t = txt r2 := ⟨_, rfl⟩
  obtain ⟨t3, e3⟩ : ∃ t, t = txt r3 := ⟨_, rfl⟩
  obtain ⟨t4, e4⟩ : ∃ t, t = txt r4 := ⟨_, rfl⟩
  rw [← e1] at H1
  rw [← e2] at H2
  rw [← e3] at H3
  rw [← e4] at HI
  have E1 := Lib.hid e1
  have E2 := Lib.hid e2
  have E3 := Lib.hid e3
  have E4 := Lib.hid e4
  clear e1 e2 e3 e4
  go_enter Tryz.func22, Tryz.ntmps22
  go_wp2_with fail
  generalize w.alloc (.cells #[.int .i64 o, .int .i64 rd, .int .i64 rs1, .int .i64 rs2, .int .i64 im, .int .i64 n] 23) = W at *
  generalize w.heap.size = b at *
  go_region_held3 (fun w' => w'.cell? ⟨b, 0, none⟩ = some (.int .i64 o) ∧ w'.cell? ⟨b, 1, none⟩ = some (.int .i64 rd) ∧ w'.cell? ⟨b, 2, none⟩ = some (.int .i64 rs1) ∧ w'.cell? ⟨b, 3, none⟩ = some (.int .i64 rs2) ∧ w'.cell? ⟨b, 4, none⟩ = some (.int .i64 im) ∧ w'.cell? ⟨b, 5, none⟩ = some (.int .i64 n) ∧ Row w' b 23 [.int .i64 o, .int .i64 rd, .int .i64 rs1, .int .i64 rs2, .int .i64 im, .int .i64 n] ∧ Tabs w' ∧ w.grownBy w' none)
    (first | assumption | (exact HeldT.on (gr_drew (gr_refl _ none)) (by assumption)) | (exact HeldT.on (by assumption) (by assumption)))
    (first
      | (go_at_call 40; refine (H1.out _ (HeldT.tabs (by assumption))).mono ?_; rintro e w' ⟨rfl, hg⟩)
      | (go_at_call 40; refine (H2.out _ (HeldT.tabs (by assumption))).mono ?_; rintro e w' ⟨rfl, hg⟩)
      | (go_at_call 40; refine (H3.out _ (HeldT.tabs (by assumption))).mono ?_; rintro e w' ⟨rfl, hg⟩))
  rename_i wS hHeld
  have HS := Lib.hid hHeld
  clear hHeld
  have c4 := HS.out.2.2.2.2.1
  go_wp2_with fail
  refine (HI.out _ (HeldT.tabs HS.out)).mono ?_
  rintro e w2 ⟨rfl, hG2⟩
  have HS2 := Lib.hid (HeldT.on hG2 HS.out)
  clear c4 hG2
  have c0 := HS2.out.1
  go_wp2_with fail
  refine (HK.out _ (HeldT.tabs HS2.out).1).mono ?_
  rintro e w' ⟨rfl, rfl⟩
  clear hS0
  have HG := Lib.hid (HeldT.gr HS2.out)
  have o4 := HO.out
  clear HO H1 H2 H3 HI HK
  rcases (show (o ≤ 0) ∨ (o = 1) ∨ (o = 2) ∨ (o = 3) ∨ (4 ≤ o ∧ o ≤ 4) ∨ (5 ≤ o ∧ o ≤ 10) ∨ (11 ≤ o ∧ o ≤ 17) ∨ (18 ≤ o ∧ o ≤ 21) ∨ (22 ≤ o ∧ o ≤ 30) ∨ (31 ≤ o ∧ o ≤ 40) ∨ (41 ≤ o ∧ o ≤ 44) ∨ (45 ≤ o ∧ o ≤ 49) ∨ (50 ≤ o ∧ o ≤ 57) ∨ (58 ≤ o ∧ o ≤ 62) ∨ (63 ≤ o ∧ o ≤ 69) ∨ (70 ≤ o ∧ o ≤ 75) ∨ (76 ≤ o ∧ o ≤ 86) ∨ (87 ≤ o ∧ o ≤ 97) ∨ (97 < o) by omega) with k | k | k | k | k | k | k | k | k | k | k | k | k | k | k | k | k | k | k
  · have HV := Lib.hid (o4.1 k)
    have HQ := Lib.hid (show kindV o = 0 from kind0 k)
    clear o4
    rw [HQ.out]
    go_wp2_with fail
    go_ret
    exact ⟨_, rfl, Or.inl ⟨rfl, HV.out⟩, HG.out⟩
  · have HV := Lib.hid (o4.2.1 k)
    have HQ := Lib.hid (show kindV o = 1 from kind1 (by omega))
    clear o4
    rw [HQ.out]
    have c0' := c0
    subst k
    go_wp2_with fail
    go_ret
    refine ⟨_, rfl, ?_, gr_alloc HG.out _⟩
    rw [HV.out]
    rw [E1.out, E4.out]
    exact strs2 _ _ _
  · have HV := Lib.hid (o4.2.2.1 k)
    have HQ := Lib.hid (show kindV o = 1 from kind1 (by omega))
    clear o4
    rw [HQ.out]
    have c0' := c0
    subst k
    go_wp2_with fail
    go_ret
    refine ⟨_, rfl, ?_, gr_alloc HG.out _⟩
    rw [HV.out]
    rw [E1.out, E4.out]
    exact strs2 _ _ _
  · have HV := Lib.hid (o4.2.2.2.1 k)
    have HQ := Lib.hid (show kindV o = 1 from kind1 (by omega))
    clear o4
    rw [HQ.out]
    have c0' := c0
    subst k
    go_wp2_with fail
    go_ret
    refine ⟨_, rfl, ?_, gr_alloc HG.out _⟩
    rw [HV.out]
    rw [E1.out, E4.out]
    exact strs2 _ _ _
  · have HV := Lib.hid (o4.2.2.2.2.1 k)
    have HQ := Lib.hid (show kindV o = 1 from kind1 (by omega))
    clear o4
    rw [HQ.out]
    obtain rfl : o = 4 := by omega
    go_wp2_with fail
    go_ret
    refine ⟨_, rfl, ?_, gr_alloc HG.out _⟩
    rw [HV.out]
    rw [E1.out, E2.out, E4.out]
    exact strs3 _ _ _ _
  · have HV := Lib.hid (o4.2.2.2.2.2.1 k)
    have HQ := Lib.hid (show kindV o = 2 from kind2 k)
    clear o4
    rw [HQ.out]
    go_wp2_with fail
    go_ret
    refine ⟨_, rfl, ?_, gr_alloc HG.out _⟩
    rw [HV.out]
    rw [E2.out, E3.out, E4.out]
    exact strs3 _ _ _ _
  · have HV := Lib.hid (o4.2.2.2.2.2.2.1 k)
    have HQ := Lib.hid (show kindV o = 3 from kind3 k)
    clear o4
    rw [HQ.out]
    have n1 : (o == 1) = false := by simp; omega
    have n2 : (o == 2) = false := by simp; omega
    have n3 : (o == 3) = false := by simp; omega
    go_wp2_with fail
    go_ret
    refine ⟨_, rfl, ?_, gr_alloc HG.out _⟩
    rw [HV.out]
    rw [E1.out, E2.out, E4.out]
    exact strs3 _ _ _ _
  · have HV := Lib.hid (o4.2.2.2.2.2.2.2.1 k)
    have HQ := Lib.hid (show kindV o = 4 from kind4 k)
    clear o4
    rw [HQ.out]
    go_wp2_with fail
    go_ret
    refine ⟨_, rfl, ?_, gr_alloc HG.out _⟩
    rw [HV.out]
    rw [E2.out, E3.out, E4.out]
    exact strs3 _ _ _ _
  · have HV := Lib.hid (o4.2.2.2.2.2.2.2.2.1 k)
    have HQ := Lib.hid (show kindV o = 5 from kind5 k)
    clear o4
    rw [HQ.out]
    have n1 : (o == 1) = false := by simp; omega
    have n2 : (o == 2) = false := by simp; omega
    have n3 : (o == 3) = false := by simp; omega
    go_wp2_with fail
    go_ret
    refine ⟨_, rfl, ?_, gr_alloc HG.out _⟩
    rw [HV.out]
    rw [E1.out, E2.out, E4.out]
    exact strs3 _ _ _ _
  · have HV := Lib.hid (o4.2.2.2.2.2.2.2.2.2.1 k)
    have HQ := Lib.hid (show kindV o = 6 from kind6 k)
    clear o4
    rw [HQ.out]
    go_wp2_with fail
    go_ret
    refine ⟨_, rfl, ?_, gr_alloc HG.out _⟩
    rw [HV.out]
    rw [E1.out, E2.out, E3.out]
    exact strs3 _ _ _ _
  · have HV := Lib.hid (o4.2.2.2.2.2.2.2.2.2.2.1 k)
    have HQ := Lib.hid (show kindV o = 7 from kind7 k)
    clear o4
    rw [HQ.out]
    have n1 : (o == 1) = false := by simp; omega
    have n2 : (o == 2) = false := by simp; omega
    have n3 : (o == 3) = false := by simp; omega
    go_wp2_with fail
    go_ret
    refine ⟨_, rfl, ?_, gr_alloc HG.out _⟩
    rw [HV.out]
    rw [E1.out, E2.out, E4.out]
    exact strs3 _ _ _ _
  · have HV := Lib.hid (o4.2.2.2.2.2.2.2.2.2.2.2.1 k)
    have HQ := Lib.hid (show kindV o = 8 from kind8 k)
    clear o4
    rw [HQ.out]
    go_wp2_with fail
    go_ret
    refine ⟨_, rfl, ?_, gr_alloc HG.out _⟩
    rw [HV.out]
    rw [E1.out, E2.out, E3.out]
    exact strs3 _ _ _ _
  · have HV := Lib.hid (o4.2.2.2.2.2.2.2.2.2.2.2.2.1 k)
    have HQ := Lib.hid (show kindV o = 9 from kind9 k)
    clear o4
    rw [HQ.out]
    go_wp2_with fail
    go_ret
    refine ⟨_, rfl, ?_, gr_alloc HG.out _⟩
    rw [HV.out]
    rw [E1.out, E2.out, E3.out]
    exact strs3 _ _ _ _
  · have HV := Lib.hid (o4.2.2.2.2.2.2.2.2.2.2.2.2.2.1 k)
    have HQ := Lib.hid (show kindV o = 10 from kind10 k)
    clear o4
    rw [HQ.out]
    go_wp2_with fail
    go_ret
    refine ⟨_, rfl, ?_, gr_alloc HG.out _⟩
    rw [HV.out]
    rw [E1.out, E2.out, E3.out]
    exact strs3 _ _ _ _
  · have HV := Lib.hid (o4.2.2.2.2.2.2.2.2.2.2.2.2.2.2.1 k)
    have HQ := Lib.hid (show kindV o = 11 from kind11 k)
    clear o4
    rw [HQ.out]
    go_wp2_with fail
    go_ret
    exact ⟨_, rfl, Or.inl ⟨rfl, HV.out⟩, HG.out⟩
  · have HV := Lib.hid (o4.2.2.2.2.2.2.2.2.2.2.2.2.2.2.2.1 k)
    have HQ := Lib.hid (show kindV o = 12 from kind12 k)
    clear o4
    rw [HQ.out]
    have n1 : (o == 1) = false := by simp; omega
    have n2 : (o == 2) = false := by simp; omega
    have n3 : (o == 3) = false := by simp; omega
    go_wp2_with fail
    go_ret
    refine ⟨_, rfl, ?_, gr_alloc HG.out _⟩
    rw [HV.out]
    rw [E1.out, E2.out, E4.out]
    exact strs3 _ _ _ _
  · have HV := Lib.hid (o4.2.2.2.2.2.2.2.2.2.2.2.2.2.2.2.2.1 k)
    have HQ := Lib.hid (show kindV o = 13 from kind13 k)
    clear o4
    rw [HQ.out]
    go_wp2_with fail
    go_ret
    refine ⟨_, rfl, ?_, gr_alloc HG.out _⟩
    rw [HV.out]
    rw [E1.out, E2.out, E3.out]
    exact strs3 _ _ _ _
  · have HV := Lib.hid (o4.2.2.2.2.2.2.2.2.2.2.2.2.2.2.2.2.2.1 k)
    have HQ := Lib.hid (show kindV o = 14 from kind14 k)
    clear o4
    rw [HQ.out]
    go_wp2_with fail
    go_ret
    refine ⟨_, rfl, ?_, gr_alloc HG.out _⟩
    rw [HV.out]
    rw [E1.out, E2.out, E3.out]
    exact strs3 _ _ _ _
  · have HV := Lib.hid (o4.2.2.2.2.2.2.2.2.2.2.2.2.2.2.2.2.2.2 k)
    have HQ := Lib.hid (show kindV o = 0 from kind_none o k)
    clear o4
    rw [HQ.out]
    go_wp2_with fail
    go_ret
    exact ⟨_, rfl, Or.inl ⟨rfl, HV.out⟩, HG.out⟩
end Go.Proofs.YtpbeamnogfjagaaGreatDoor.E
end

section
namespace Go.Proofs.YtpbeamnogfjagaaGreatDoor.E
open Go Go.RowKit Go.Sort F W M D
set_option linter.unusedVariables false
set_option maxRecDepth 100000

theorem infoS : (Tryz.prog.info? 9).map (fun i => (i.zero, i.size, i.bytes)) = some (some (.string ByteArray.empty), 1, 16) := by kernel_rfl
/-- An instruction as text. -/
def textV (o rd rs1 rs2 im : Int) : Bytes := Lib.join (nameV o :: opsV o rd rs1 rs2 im) [32]
theorem reg_len {r : Int} (hr : I64 r) : (regT r).length ≤ 22 := by
  have := Lib.itoa_length_le r hr.1 hr.2
  simp [regT]; omega
theorem name_len (o : Int) : (nameV o).length ≤ 22 := by
  by_cases h : 0 ≤ o ∧ o ≤ 97
  · have := rng_at (a := 0) (b := 97) (P := fun o => decide ((nameV o).length ≤ 22)) (by decide +kernel) o (by omega)
    exact of_decide_eq_true this
  · rw [nameV, if_pos (by omega)]; simp
theorem ops_len (o rd rs1 rs2 im : Int) (h1 : I64 rd) (h2 : I64 rs1) (h3 : I64 rs2) (hi : I64 im) : (opsV o rd rs1 rs2 im).length ≤ 3 ∧ ∀ s ∈ opsV o rd rs1 rs2 im, s.length ≤ 22 := by
  have l1 := reg_len h1
  have l2 := reg_len h2
  have l3 := reg_len h3
  have l4 := Lib.itoa_length_le im hi.1 hi.2
  rcases (show (o ≤ 0) ∨ (o = 1) ∨ (o = 2) ∨ (o = 3) ∨ (4 ≤ o ∧ o ≤ 4) ∨ (5 ≤ o ∧ o ≤ 10) ∨ (11 ≤ o ∧ o ≤ 17) ∨ (18 ≤ o ∧ o ≤ 21) ∨ (22 ≤ o ∧ o ≤ 30) ∨ (31 ≤ o ∧ o ≤ 40) ∨ (41 ≤ o ∧ o ≤ 44) ∨ (45 ≤ o ∧ o ≤ 49) ∨ (50 ≤ o ∧ o ≤ 57) ∨ (58 ≤ o ∧ o ≤ 62) ∨ (63 ≤ o ∧ o ≤ 69) ∨ (70 ≤ o ∧ o ≤ 75) ∨ (76 ≤ o ∧ o ≤ 86) ∨ (87 ≤ o ∧ o ≤ 97) ∨ (97 < o) by omega) with k | k | k | k | k | k | k | k | k | k | k | k | k | k | k | k | k | k | k
  · rw [ops0 k]; exact ⟨by simp, fun s hs => by simp at hs⟩
  · rw [ops1 k]; exact ⟨by simp, fun s hs => by simp at hs; rcases hs with rfl | rfl <;> omega⟩
  · rw [ops2 k]; exact ⟨by simp, fun s hs => by simp at hs; rcases hs with rfl | rfl <;> omega⟩
  · rw [ops3 k]; exact ⟨by simp, fun s hs => by simp at hs; rcases hs with rfl | rfl <;> omega⟩
  · rw [ops4 k]; exact ⟨by simp, fun s hs => by simp at hs; rcases hs with rfl | rfl | rfl <;> omega⟩
  · rw [ops5 k]; exact ⟨by simp, fun s hs => by simp at hs; rcases hs with rfl | rfl | rfl <;> omega⟩
  · rw [ops6 k]; exact ⟨by simp, fun s hs => by simp at hs; rcases hs with rfl | rfl | rfl <;> omega⟩
  · rw [ops7 k]; exact ⟨by simp, fun s hs => by simp at hs; rcases hs with rfl | rfl | rfl <;> omega⟩
  · rw [ops8 k]; exact ⟨by simp, fun s hs => by simp at hs; rcases hs with rfl | rfl | rfl <;> omega⟩
  · rw [ops9 k]; exact ⟨by simp, fun s hs => by simp at hs; rcases hs with rfl | rfl | rfl <;> omega⟩
  · rw [ops10 k]; exact ⟨by simp, fun s hs => by simp at hs; rcases hs with rfl | rfl | rfl <;> omega⟩
  · rw [ops11 k]; exact ⟨by simp, fun s hs => by simp at hs; rcases hs with rfl | rfl | rfl <;> omega⟩
  · rw [ops12 k]; exact ⟨by simp, fun s hs => by simp at hs; rcases hs with rfl | rfl | rfl <;> omega⟩
  · rw [ops13 k]; exact ⟨by simp, fun s hs => by simp at hs; rcases hs with rfl | rfl | rfl <;> omega⟩
  · rw [ops14 k]; exact ⟨by simp, fun s hs => by simp at hs⟩
  · rw [ops15 k]; exact ⟨by simp, fun s hs => by simp at hs; rcases hs with rfl | rfl | rfl <;> omega⟩
  · rw [ops16 k]; exact ⟨by simp, fun s hs => by simp at hs; rcases hs with rfl | rfl | rfl <;> omega⟩
  · rw [ops17 k]; exact ⟨by simp, fun s hs => by simp at hs; rcases hs with rfl | rfl | rfl <;> omega⟩
  · rw [ops18 k]; exact ⟨by simp, fun s hs => by simp at hs⟩
theorem join_len (l : List Bytes) (k : Nat) (h : ∀ s ∈ l, s.length ≤ k) : (Lib.join l [32]).length ≤ l.length * (k + 1) := by
  cases l with
  | nil => simp [Lib.join]
  | cons a r =>
    rw [Lib.join_cons]
    have ha := h a (by simp)
    have key : ∀ r : List Bytes, (∀ s ∈ r, s.length ≤ k) → (Lib.joinTail [32] r).length ≤ r.length * (k + 1) := by
      intro r
      induction r with
      | nil => intro _; simp [Lib.joinTail]
      | cons b r ih =>
        intro hr
        have hb := hr b (by simp)
        have := ih fun s hs => hr s (by simp [hs])
        simp only [Lib.joinTail, List.map_cons, List.flatten_cons, List.length_append, List.length_cons, List.length_nil] at this ⊢
        rw [Nat.add_mul]
        omega
    have := key r fun s hs => h s (by simp [hs])
    rw [List.length_append, List.length_cons, Nat.add_mul]
    omega
theorem cells_strs {w : World} {b : Nat} {l : List Bytes} (h : Row w b 9 (l.map fun s => .string (txt s))) : ∀ j u, (l.map fun s => Value.string (txt s))[j]? = some u → w.cell? ((⟨b, 0, none⟩ : Addr).add j) = some u := by
  intro j u hu
  have e : (⟨b, 0, none⟩ : Addr).add j = ⟨b, j, none⟩ := by
    unfold Addr.add
    split
    · next h => rw [h]
    · simp
  rw [e, h.cell j, hu]
theorem own_cells {w : World} {base : Nat} {v : Value} {n : Nat} {l : List Bytes} (hn : 0 < n) (h : w.ownsRow base 9 1 v n (l.map fun s => .string (txt s))) :
    ∃ g cap, v = .slice (some ⟨g, 0, none⟩) n cap ∧ l.length = n ∧ n ≤ cap ∧ g < w.heap.size ∧ ∀ (j : Nat) x, (l.map txt)[j]? = some x → w.cell? ⟨g, 0 + j, none⟩ = some (.string x) := by
  obtain ⟨hl, hc | ⟨g, cap, cur, rfl, hb, hh, hnc, hm, hcs, ht⟩⟩ := h
  · omega
  · refine ⟨g, cap, rfl, by simpa using hl, hnc, ?_, ?_⟩
    · apply Classical.byContradiction
      intro hc
      rw [Array.getElem?_eq_none (by omega)] at hh
      cases hh
    · intro j x hx
      have hj : j < n := by
        have := List.getElem?_eq_some_iff.1 hx
        obtain ⟨hj, _⟩ := this
        simp at hj hl
        omega
      have h1 : (l.map fun s => Value.string (txt s))[j]? = some (.string x) := by
        rw [List.getElem?_map] at hx ⊢
        cases hq : l[j]? with
        | none => rw [hq] at hx; simp at hx
        | some s => rw [hq] at hx; simp at hx ⊢; rw [hx]
      rw [← ht, List.getElem?_take, if_pos (by omega)] at h1
      simp only [World.cell?, hh, Nat.zero_add]
      simpa using h1
theorem map_txt (l : List Bytes) : (l.map txt).map (·.data.toList) = l := by
  induction l with
  | nil => rfl
  | cons a l ih => rw [List.map_cons, List.map_cons, ih, txt_list]
set_option maxHeartbeats 4000000 in
theorem Text_c (o rd rs1 rs2 im n : Int) (ho : I64 o) (h1 : I64 rd) (h2 : I64 rs1) (h3 : I64 rs2) (hi : I64 im) (w : World) (hT : Tabs w) :
    Calls Tryz.prog 13 #[six o rd rs1 rs2 im n] w fun e w' => e = .returned (.string (txt (textV o rd rs1 rs2 im))) ∧ Below w.heap.size w w' := by
  obtain ⟨i0, hi0, hz0, hz1, hz2⟩ := info_parts infoS
  have hS0 := heldT_new w hT o rd rs1 rs2 im n
  have c0 := hS0.1
  have HS := Lib.hid hS0
  clear hS0
  have HO := Lib.hid (fun W h => operands_c o rd rs1 rs2 im n ho h1 h2 h3 hi W h)
  have HL := Lib.hid (ops_len o rd rs1 rs2 im h1 h2 h3 hi)
  have HN := Lib.hid (name_len o)
  have HC := Lib.hid (fun W h => Name_c o ho W h)
  unfold textV
  generalize opsV o rd rs1 rs2 im = l at *
  generalize nameV o = s at *
  obtain ⟨sb, e1⟩ : ∃ t, t = txt s := ⟨_, rfl⟩
  rw [← e1] at HC
  have E1 := Lib.hid e1
  clear e1
  go_enter Tryz.func13, Tryz.ntmps13
  go_wp2_with fail
  refine (HC.out _ (HeldT.tabs HS.out).2.1).mono ?_
  rintro e w' ⟨rfl, rfl⟩
  have hG1 := gr_alloc (HeldT.gr HS.out) (.cells #[.string sb] 9)
  have HS1 := Lib.hid (HeldT.on (gr_alloc (gr_refl _ none) (.cells #[.string sb] 9)) HS.out)
  clear c0
  obtain ⟨c0, c1, c2, c3, c4, c5, _, _, _⟩ := HS1.out
  go_wp2_with fail
  refine (HO.out _ (HeldT.tabs HS1.out)).mono ?_
  rintro e w2 ⟨v, rfl, hV, hG2⟩
  have hR1 : Row (((w.alloc (.cells #[.int .i64 o, .int .i64 rd, .int .i64 rs1, .int .i64 rs2, .int .i64 im, .int .i64 n] 23)).alloc (.cells #[.string sb] 9))) (w.heap.size + 1) 9 [.string sb] := by
    have e : w.heap.size + 1 = (w.alloc (.cells #[.int .i64 o, .int .i64 rd, .int .i64 rs1, .int .i64 rs2, .int .i64 im, .int .i64 n] 23)).heap.size := by
      show _ = (w.heap.push _).size
      rw [Array.size_push]
    rw [e]
    exact Row.fresh _ 9 [.string sb]
  have hR2 := hR1.grown hG2 (by simp)
  have hown : w2.ownsRow w.heap.size 9 1 (.slice (some ⟨w.heap.size + 1, 0, none⟩) 1 1) 1 [.string sb] :=
    ⟨rfl, Or.inr ⟨_, 1, #[.string sb], rfl, by omega, hR2, by omega, by unfold maxLen; omega, rfl, rfl⟩⟩
  have hB2 : Below w.heap.size w w2 := gr_below (gr_trans hG1 hG2)
  clear c0 c1 c2 c3 c4 c5 hR1 hG1 hG2 HS HS1 HO HC hT
  rcases hV with ⟨rfl, rfl⟩ | ⟨b, rfl, hRb⟩
  · have hJ := Tryz.strings_Join (w.heap.size + 1) 0 1 [sb] ⟨#[32]⟩ w2 (by
      intro j x hx
      have := hR2.cell j
      rw [Nat.zero_add, this]
      cases j with
      | zero => simp at hx ⊢; exact hx
      | succ j => simp at hx) hR2.lt (by simp) (by simp) (by
        simp only [List.map_cons, List.map_nil, Lib.join_one]
        rw [E1.out, txt_list]
        have := HN.out
        omega)
    have e : (Lib.join ([sb].map (·.data.toList)) (⟨#[32]⟩ : ByteArray).data.toList) = Lib.join [s] [32] := by rw [E1.out]; simp [txt]
    rw [e] at hJ
    have HJ := Lib.hid hJ
    have HB := Lib.hid hB2
    have HW := Lib.hid hown
    clear hJ hB2 e HN HL hR2 hown hz0 hz1 hz2 E1
    go_wp2_with (at_builtin; refine wpList_append_own_none rfl (.tmp 8) (.tmp 10) 45 rfl w.heap.size 9 i0 1 Tryz.underlying45 hi0 _ 1 [.string sb] rfl HW.out rfl ?_)
    refine HJ.out.mono ?_
    rintro e w3 ⟨rfl, hB3⟩
    go_wp2_with fail
    go_ret
    exact ⟨rfl, HB.out.trans (hB3.mono HB.out.size)⟩
  · have hll := HL.out.1
    have hmm : ∀ s ∈ l, List.length s ≤ 22 := HL.out.2
    have HC := Lib.hid (cells_strs hRb)
    have hlen : l.length + 1 ≤ maxLen := by unfold maxLen; omega
    clear HL
    go_wp2_with (at_builtin; refine wpList_append_own _ rfl (.tmp 8) (.tmp 10) 45 rfl w.heap.size 9 i0 (.string ByteArray.empty) 1 16 Tryz.underlying45 hi0 hz0 hz1 hz2 rfl (by decide) _ 1 [.string sb] rfl hown ⟨b, 0, none⟩ l.length l.length (l.map fun s => .string (txt s)) rfl (by simp) HC.out (fun u hu => by simp at hu; obtain ⟨s, _, rfl⟩ := hu; rfl) (by omega) (by omega) hB2.size ?_; intro v3 w3 hown3 hgr3 hnil3)
    have e3 : [Value.string sb] ++ (l.map fun s => Value.string (txt s)) = (s :: l).map fun s => Value.string (txt s) := by rw [E1.out]; rfl
    rw [e3] at hown3
    obtain ⟨g, cap, rfl, hln, hcp, hg, hcl⟩ := own_cells (by omega) hown3
    have hJ := Tryz.strings_Join g 0 cap ((s :: l).map txt) ⟨#[32]⟩ w3 hcl hg (by simp; omega) (by simp; omega) (by
      rw [map_txt (s :: l)]
      have hk : ∀ x ∈ s :: l, List.length x ≤ 22 := by
        intro x hx
        simp at hx
        rcases hx with rfl | hx
        · exact HN.out
        · exact hmm x hx
      have := join_len (s :: l) 22 hk
      simp at this ⊢
      omega)
    rw [map_txt (s :: l), show ((s :: l).map txt).length = 1 + l.length from by simp; omega] at hJ
    have hB3 : Below w.heap.size w w3 := hB2.grown hgr3 hB2.size (fun k hk => by have : w.heap.size + 1 = k := Option.some.inj hk; omega)
    refine hJ.mono ?_
    rintro e w4 ⟨rfl, hB4⟩
    have HB := Lib.hid (hB3.trans (hB4.mono hB3.size))
    clear hJ hcl hown3 hgr3 hB2 hB3 hB4 hnil3 e3 hR2 hown
    go_wp2_with fail
    go_ret
    exact ⟨rfl, HB.out⟩
end Go.Proofs.YtpbeamnogfjagaaGreatDoor.E
end

section
namespace Go.Proofs.YtpbeamnogfjagaaGreatDoor.E
open Go Go.RowKit F W M D refWord
set_option linter.unusedVariables false
set_option maxRecDepth 100000

theorem gr_of_below {w w' : World} (h : Below w.heap.size w w') : w.grownBy w' none := ⟨h.os, h.tape, h.output, h.size, fun k hk _ => h.block k hk⟩
theorem txt_toList (l : Bytes) : (txt l).toList = l := Go.ByteArray.toList_mk l
theorem ok_sample : okE 22 10 10 0 10 4 = true := by decide +kernel
theorem lay_sample : layI 22 10 10 0 10 = 10814739 := by decide +kernel
theorem text_sample : textV 22 10 10 0 10 = [97, 100, 100, 105, 32, 120, 49, 48, 32, 120, 49, 48, 32, 49, 48] := by decide +kernel
set_option maxHeartbeats 1000000 in
theorem shown06_c (w : World) (hT : Tabs w) : Calls Tryz.prog 8 #[] w fun e w' => e = .returned (.bool true) ∧ w.grownBy w' none := by
  have HW := Lib.hid (fun W h => Word_yes 22 10 10 0 10 4 (by decide) (by decide) (by decide) (by decide) (by decide) ok_sample W h)
  rw [lay_sample] at HW
  have HX := Lib.hid (fun W h => Text_c 22 10 10 0 10 0 (by decide) (by decide) (by decide) (by decide) (by decide) W h)
  rw [text_sample] at HX
  have ht := txt_toList [97, 100, 100, 105, 32, 120, 49, 48, 32, 120, 49, 48, 32, 49, 48]
  go_enter Tryz.func8, Tryz.ntmps8
  go_wp2_with fail
  refine (HW.out _ hT.1).mono ?_
  rintro e w1 ⟨rfl, hG1⟩
  go_wp2_with fail
  refine (HX.out _ (hT.grown hG1)).mono ?_
  rintro e w2 ⟨rfl, hB2⟩
  go_wp2_with fail
  go_ret
  exact ⟨rfl, gr_trans hG1 (gr_of_below hB2)⟩
theorem rWord_at {x : Nat} {o rd rs1 rs2 im : Int} (hx : x < 4294967296) (h : D.wordV x = (o, rd, rs1, rs2, im)) (w : World) :
    Calls Tryz.prog 15 #[.int .u32 x] w fun e w' => e = .returned (.agg #[.int .i64 o, .int .i64 rd, .int .i64 rs1, .int .i64 rs2, .int .i64 im, .int .i64 4]) ∧ w.grownBy w' none := by
  have := rWord_c x hx w
  rw [h] at this
  exact this
/-- Where there is a word, it is that instruction. -/
theorem ok_word {o rd rs1 rs2 im n : Int} (h : okE o rd rs1 rs2 im n = true) : n = 4 ∧ wordE o rd rs1 rs2 im n < 4294967296 ∧ D.wordV (wordE o rd rs1 rs2 im n) = (o, rd, rs1, rs2, im) ∧ D.Can o (rd, rs1, rs2, im) := by
  have hc := (okE_iff o rd rs1 rs2 im n).1 h
  rw [wordE, if_pos h]
  refine ⟨hc.2, layI_lt _ _ _ _ _, ?_, hc.1⟩
  unfold okE at h
  exact (of_decide_eq_true h).1
theorem can_i64 {o : Int} {rd rs1 rs2 im : Int} (h : D.Can o (rd, rs1, rs2, im)) : I64 o ∧ I64 rd ∧ I64 rs1 ∧ I64 rs2 ∧ I64 im := by
  obtain ⟨h0, h1, h2, h3, hl⟩ := h
  simp only at h1 h2 h3 hl
  have him : I64 im := by
    rcases (show (o ≤ 0) ∨ (1 ≤ o ∧ o ≤ 2) ∨ (3 ≤ o ∧ o ≤ 3) ∨ (4 ≤ o ∧ o ≤ 4) ∨ (5 ≤ o ∧ o ≤ 10) ∨ (11 ≤ o ∧ o ≤ 17) ∨ (18 ≤ o ∧ o ≤ 21) ∨ (22 ≤ o ∧ o ≤ 27) ∨ (28 ≤ o ∧ o ≤ 30) ∨ (31 ≤ o ∧ o ≤ 40) ∨ (41 ≤ o ∧ o ≤ 41) ∨ (42 ≤ o ∧ o ≤ 44) ∨ (45 ≤ o ∧ o ≤ 62) ∨ (63 ≤ o ∧ o ≤ 68) ∨ (69 ≤ o ∧ o ≤ 69) ∨ (70 ≤ o ∧ o ≤ 75) ∨ (76 ≤ o ∧ o ≤ 76) ∨ (77 ≤ o ∧ o ≤ 86) ∨ (87 ≤ o ∧ o ≤ 87) ∨ (88 ≤ o) by omega) with k | k | k | k | k | k | k | k | k | k | k | k | k | k | k | k | k | k | k | k
    · rw [lim0 _ _ _ _ _ k] at hl; exact ⟨by omega, by omega⟩
    · rw [lim1 _ _ _ _ _ k] at hl; exact ⟨by omega, by omega⟩
    · rw [lim2 _ _ _ _ _ k] at hl; exact ⟨by omega, by omega⟩
    · rw [lim3 _ _ _ _ _ k] at hl; exact ⟨by omega, by omega⟩
    · rw [lim4 _ _ _ _ _ k] at hl; exact ⟨by omega, by omega⟩
    · rw [lim5 _ _ _ _ _ k] at hl; exact ⟨by omega, by omega⟩
    · rw [lim6 _ _ _ _ _ k] at hl; exact ⟨by omega, by omega⟩
    · rw [lim7 _ _ _ _ _ k] at hl; exact ⟨by omega, by omega⟩
    · rw [lim8 _ _ _ _ _ k] at hl; exact ⟨by omega, by omega⟩
    · rw [lim9 _ _ _ _ _ k] at hl; exact ⟨by omega, by omega⟩
    · rw [lim10 _ _ _ _ _ k] at hl; exact ⟨by omega, by omega⟩
    · rw [lim11 _ _ _ _ _ k] at hl; exact ⟨by omega, by omega⟩
    · rw [lim12 _ _ _ _ _ k] at hl; exact ⟨by omega, by omega⟩
    · rw [lim13 _ _ _ _ _ k] at hl; exact ⟨by omega, by omega⟩
    · rw [lim14 _ _ _ _ _ k] at hl; exact ⟨by omega, by omega⟩
    · rw [lim15 _ _ _ _ _ k] at hl; exact ⟨by omega, by omega⟩
    · rw [lim16 _ _ _ _ _ k] at hl; exact ⟨by omega, by omega⟩
    · rw [lim17 _ _ _ _ _ k] at hl; exact ⟨by omega, by omega⟩
    · rw [lim18 _ _ _ _ _ k] at hl; exact ⟨by omega, by omega⟩
    · rw [lim19 _ _ _ _ _ k] at hl; exact ⟨by omega, by omega⟩
  exact ⟨⟨by omega, by omega⟩, ⟨by omega, by omega⟩, ⟨by omega, by omega⟩, ⟨by omega, by omega⟩, him⟩
end Go.Proofs.YtpbeamnogfjagaaGreatDoor.E
end

section
namespace Go.Proofs.YtpbeamnogfjagaaGreatDoor.E
open Go Go.RowKit F W M D
set_option linter.unusedVariables false
theorem sz (w : World) (o : Obj) : (w.alloc o).heap.size = w.heap.size + 1 := by
  show (w.heap.push _).size = _
  rw [Array.size_push]
end Go.Proofs.YtpbeamnogfjagaaGreatDoor.E
end
