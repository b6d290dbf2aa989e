/-
  What the program's tables hold where its text lays them: kinds, names, powers of ten; and what package enc's Name is: contracts over the program's translation.
  Conditions: the arguments are numbers of their kinds.
-/
import Derived.Test.YtpbeamnogfjagaaGreatDoorEncNV
import Derived.Test.YtpbeamnogfjagaaGreatDoorDecK
import Derived.Lib.LaidTab
import Derived.Lib.ItoaNum
namespace Go.Proofs.YtpbeamnogfjagaaGreatDoor.E
open Go Go.RowKit F W M D
set_option linter.unusedVariables false
set_option maxRecDepth 100000

/-- The names stand where the program's text lays them. -/
def Nam (w : World) : Prop := (∀ i, i < 76 → w.cell? ⟨0, i, none⟩ = some (.string (txt (namL.getD i [])))) ∧ ∀ i, i < 11 → w.cell? ⟨1, i, none⟩ = some (.string (txt (atoL.getD i [])))
theorem Nam.grown {w w' : World} (h : Nam w) (hg : w.grownBy w' none) : Nam w' := by
  have h0 : 0 < w.heap.size := block_lt_of_cell (h.1 0 (by omega))
  have h1 : 1 < w.heap.size := block_lt_of_cell (h.2 0 (by omega))
  constructor
  · intro i hi
    rw [← h.1 i hi]; simp [World.cell?, hg.block 0 h0 (by simp)]
  · intro i hi
    rw [← h.2 i hi]; simp [World.cell?, hg.block 1 h1 (by simp)]
theorem txt_size (l : Bytes) : (txt l).size = l.length := by simp [txt, ByteArray.size]
theorem ato_len (n : Nat) (hn : n < 11) : (atoL.getD n []).length ≤ 100 := by
  have : ∀ n, n < 11 → (atoL.getD n []).length ≤ 100 := by decide +kernel
  exact this n hn
set_option maxHeartbeats 1000000 in
theorem Name_c (o : Int) (ho : -9223372036854775808 ≤ o ∧ o ≤ 9223372036854775807) (w : World) (h : Nam w) :
    Calls Tryz.prog 11 #[.int .i64 o] w fun e w' => e = .returned (.string (txt (nameV o))) ∧ w = w' := by
  rcases (show o < 0 ∨ 97 < o ∨ (0 ≤ o ∧ o < 76) ∨ (76 ≤ o ∧ o < 87) ∨ (87 ≤ o ∧ o ≤ 97) by omega) with k | k | k | k | k
  · rw [nameV, if_pos (by omega)]
    go_enter Tryz.func11, Tryz.ntmps11
    go_wp2_with fail
    go_ret
    exact ⟨rfl, rfl⟩
  · rw [nameV, if_pos (by omega)]
    go_enter Tryz.func11, Tryz.ntmps11
    go_wp2_with fail
    go_ret
    exact ⟨rfl, rfl⟩
  · rw [nameV, if_neg (by omega), if_pos (by omega)]
    obtain ⟨n, rfl⟩ : ∃ n : Nat, o = n := ⟨o.toNat, by omega⟩
    rw [Int.toNat_natCast]
    have c := h.1 n (by omega)
    generalize txt (namL.getD n []) = s at *
    go_enter Tryz.func11, Tryz.ntmps11
    go_wp2_with fail
    go_ret
    exact ⟨rfl, rfl⟩
  · rw [nameV, if_neg (by omega), if_neg (by omega), if_pos (by omega)]
    obtain ⟨n, rfl⟩ : ∃ n : Nat, o = 76 + (n : Int) := ⟨(o - 76).toNat, by omega⟩
    rw [show (76 + (n : Int) - 76).toNat = n by omega]
    have c := h.2 n (by omega)
    have e : (76 + (n : Int) - 76) = n := by omega
    have HA := Lib.hid (txt_app (atoL.getD n []) [119])
    obtain ⟨s, hs⟩ : ∃ s, s = txt (atoL.getD n []) := ⟨_, rfl⟩
    rw [← hs] at c HA
    have hz : s.size ≤ 100 := by rw [hs, txt_size]; exact ato_len n (by omega)
    clear hs
    go_enter Tryz.func11, Tryz.ntmps11
    go_wp2_with fail
    go_ret
    exact ⟨by rw [← HA.out]; rfl, rfl⟩
  · rw [nameV, if_neg (by omega), if_neg (by omega), if_neg (by omega)]
    obtain ⟨n, rfl⟩ : ∃ n : Nat, o = 87 + (n : Int) := ⟨(o - 87).toNat, by omega⟩
    rw [show (87 + (n : Int) - 87).toNat = n by omega]
    have c := h.2 n (by omega)
    have e : (87 + (n : Int) - 87) = n := by omega
    have HA := Lib.hid (txt_app (atoL.getD n []) [100])
    obtain ⟨s, hs⟩ : ∃ s, s = txt (atoL.getD n []) := ⟨_, rfl⟩
    rw [← hs] at c HA
    have hz : s.size ≤ 100 := by rw [hs, txt_size]; exact ato_len n (by omega)
    clear hs
    go_enter Tryz.func11, Tryz.ntmps11
    go_wp2_with fail
    go_ret
    exact ⟨by rw [← HA.out]; rfl, rfl⟩
/-- All that the laws of this layer take of the program's tables. -/
def Tabs (w : World) : Prop := Tbl w ∧ Nam w ∧ Lib.TabIs Tryz.prog w "internal/strconv.uint64pow10" .u64 Lib.pow10Tab
theorem tab_grown {P : Program} {w w' : World} {name : String} {k : IntKind} {zs : List Int} (h : Lib.TabIs P w name k zs) (hg : w.grownBy w' none) : Lib.TabIs P w' name k zs := by
  unfold Lib.TabIs World.var? at *
  cases hn : P.globalNamed name with
  | none => rw [hn] at h; simp at h
  | some g =>
    rw [hn] at h
    simp only [Option.bind_some] at h ⊢
    have hlt : g < w.heap.size := by
      apply Classical.byContradiction
      intro hc
      rw [Array.getElem?_eq_none (by omega)] at h
      simp at h
    rw [hg.block g hlt (by simp)]
    exact h
theorem Tabs.grown {w w' : World} (h : Tabs w) (hg : w.grownBy w' none) : Tabs w' := ⟨h.1.grown hg, h.2.1.grown hg, tab_grown h.2.2 hg⟩
end Go.Proofs.YtpbeamnogfjagaaGreatDoor.E
