/-
  The document's example, as the head of layer 2's statements has it; the first bytes of a list; a text of bytes.
  Conditions: none.
-/
import Derived.Test.YtkfmcbhoendocaaRamC
import Derived.ProofKit
import Derived.OpenShut
namespace Go.Proofs.Ytkfmcbhoendocaa.M
open Go Go.RowKit
set_option linter.unusedVariables false
theorem str_empty : strOfNums [] = ByteArray.empty := rfl
/-- A list of bytes, as a text. -/
theorem Shows.text {P : Program} {w : World} {B m : Nat} {A : Option Addr} {zs : List Int} (h : Shows w B A m zs) (src e dst : TypeId) (c : Nat) (hs : P.underlying src = some (.slice e)) (he : P.underlying e = some (.int .u8)) (hd : P.underlying dst = some .string) :
    (convert src dst (.slice A m c)).run P w = .ok (.string (strOfNums zs)) w := by
  rcases Nat.eq_zero_or_pos m with h0 | h0
  · subst h0
    have hn : zs = [] := List.eq_nil_of_length_eq_zero h.1
    subst hn
    cases A with
    | none => exact run_convert_bytes_nil w src e hs he 0 c dst hd
    | some a =>
      rw [run_convert_bytes_string w src dst e _ 0 c hs he hd, run_bytesToString w _ 0 c [] (by simpa using run_loadCells_list (P := P) w a [] (by simp))]
      rfl
  · obtain ⟨ad, rfl, _, _⟩ := h.2.2 h0
    have hl : (loadCells ad m).run P w = .ok (zs.map (Value.int .u8)).toArray w := by
      have := run_loadCells_list (P := P) w ad (vals zs) h.src
      rw [vals_length, h.1] at this
      exact this
    rw [run_convert_bytes_string w src dst e _ m c hs he hd, run_bytesToString w _ m c zs hl, foldl_push_bytes]
    simp [strOfNums, ByteArray.empty, ByteArray.emptyWithCapacity]
    rfl
theorem add_add (a : Addr) (i j : Nat) : (a.add i).add j = a.add (i + j) := by
  unfold Addr.add
  by_cases hi : i = 0 <;> by_cases hj : j = 0 <;> simp [hi, hj, Nat.add_assoc]
/-- A part of a list, as a cut has it. -/
theorem Shows.part {w : World} {B m : Nat} {A : Option Addr} {zs : List Int} (h : Shows w B A m zs) {i n : Nat} (hi : i + n ≤ m) (A' : Option Addr) (hA : 0 < n → A' = A.map (·.add i)) : Shows w B A' n ((zs.drop i).take n) := by
  refine ⟨by rw [List.length_take, List.length_drop, h.1]; omega, take_byt (drop_byt h.2.1 _) _, fun hp => ?_⟩
  obtain ⟨ad, rfl, hb, hc⟩ := h.2.2 (by omega)
  refine ⟨ad.add i, hA hp, by rw [add_block]; exact hb, fun j hj => ?_⟩
  rw [add_add, hc _ (by omega)]
  simp [List.getD, hj]
theorem cell_lt {w : World} {a : Addr} {v : Value} (h : w.cell? a = some v) : a.block < w.heap.size := by
  rcases Nat.lt_or_ge a.block w.heap.size with h1 | h1
  · exact h1
  · simp [World.cell?, Array.getElem?_eq_none h1] at h
theorem wf_u8 {b : Int} (h : (Lit.int .u8 b).wf = true) : 0 ≤ b ∧ b ≤ 255 := bounds_u8 h
open Go.ChangeShapes Go.WideShapes in
/-- The cells of a slice of bytes that is read. -/
theorem read_bytes {H : Type} {enc : TypeId × Value → H} {P : Program} {w : World} {base : Nat} {held : Bool} {t e : TypeId} {v : Value} {fuel : Nat} {x : DataW H × List MemPlace}
    (ht : P.underlying t = some (.slice e)) (he : P.underlying e = some (.int .u8)) (hc : P.cellsOf e = 1) (h : DataW.trod enc P w base (fun _ => true) held fuel t [v] = some x) :
    ∃ (A : Option Addr) (m c : Nat) (zs : List Int), v = .slice A m c ∧ Shows w w.heap.size A m zs ∧ m ≤ c ∧ c ≤ 9223372036854775807 := by
  rcases open_ints ht he hc h with ⟨h1, _⟩ | ⟨a, len, cap, zs, h1, _, hl, hm, hz, _, hcell, hw⟩
  · simp only [List.cons.injEq, and_true] at h1
    exact ⟨none, 0, 0, [], h1, ⟨rfl, by simp [Byt], fun h => absurd h (by omega)⟩, by omega, by omega⟩
  · simp only [List.cons.injEq, and_true] at h1
    simp only [if_true] at hz
    refine ⟨some a, len, cap, zs.take len, h1, ⟨by rw [List.length_take]; omega, fun b hb => wf_u8 (hw b (List.mem_of_mem_take hb)), fun hp => ⟨a, rfl, ?_, fun j hj => ?_⟩⟩, hl, by unfold maxLen at hm; omega⟩
    · have := cell_lt (hcell 0 (by omega))
      rwa [add_block] at this
    · rw [hcell j (by omega)]
      simp [List.getD, hj]
open Go.ChangeShapes Go.WideShapes in
/-- A slice of bytes among the arguments. -/
theorem open_bytes {H : Type} {enc : TypeId × Value → H} {P : Program} {w : World} {r : Reach} {b0 base : Nat} {held : Bool} {t e : TypeId} {v : Value} {d : DataW H} {p : List MemPlace}
    (ht : P.underlying t = some (.slice e)) (he : P.underlying e = some (.int .u8)) (hc : P.cellsOf e = 1) (hv : Value.okWide P w r b0 t v) (h : DataW.Trod enc P w base (fun _ => true) held t v d p) :
    ∃ (A : Option Addr) (m c : Nat) (zs : List Int), v = .slice A m c ∧ Shows w w.heap.size A m zs ∧ m ≤ c ∧ c ≤ 9223372036854775807 := by
  obtain ⟨fuel, hf⟩ := h
  obtain ⟨A0, m0, c0, rfl⟩ := okWide_slice ht hv
  exact read_bytes ht he hc hf
end Go.Proofs.Ytkfmcbhoendocaa.M
namespace Go.Proofs.Ytkfmcbhoendocaa
open Go Go.RowKit M
set_option linter.unusedVariables false

end Go.Proofs.Ytkfmcbhoendocaa
