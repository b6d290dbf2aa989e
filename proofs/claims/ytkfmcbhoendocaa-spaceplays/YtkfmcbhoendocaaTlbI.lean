/-
  Functions of leaves, called by their value; the first leaf of a row that is meant (slices.IndexFunc): contracts over the program's translation.
  Conditions: the row stands; its leaves are of numbers of their kinds.
-/
import Derived.Test.YtkfmcbhoendocaaTlbC
namespace Go.Proofs.Ytkfmcbhoendocaa
open Go Go.RowKit W M A P
set_option linter.unusedVariables false

/-- The value is a function of a leaf that, called in any world that left the blocks from lo on, answers as q does. -/
def Tests (lo : Nat) (w : World) (v : Value) (q : T.Lf → Bool) : Prop :=
  ∃ k cap, v = .func (.func k) #[] cap ∧ POpens k ∧ ∀ w', (∀ i, lo ≤ i → i < w.heap.size → w'.heap[i]? = w.heap[i]?) → ∀ x, T.Fine x →
    Calls Try.prog k (#[T.vT x] ++ cap) w' fun r w'' => r = .returned (.bool (q x)) ∧ w'.grownBy w'' none
theorem Tests.go {lo : Nat} {w w' : World} {v : Value} {q : T.Lf → Bool} (h : Tests lo w v q) (hs : w.heap.size ≤ w'.heap.size) (hk : ∀ i, lo ≤ i → i < w.heap.size → w'.heap[i]? = w.heap[i]?) : Tests lo w' v q := by
  obtain ⟨k, cap, h1, hc, h2⟩ := h
  exact ⟨k, cap, h1, hc, fun w'' hg => h2 w'' fun i hi hl => (hg i hi (by omega)).trans (hk i hi hl)⟩
theorem Tests.grown {lo : Nat} {w w' : World} {v : Value} {q : T.Lf → Bool} (h : Tests lo w v q) {row : Option Nat} (hg : w.grownBy w' row) (hr : ∀ g, row = some g → g < lo) : Tests lo w' v q :=
  h.go hg.size fun i hi hl => hg.block i hl (fun e => by have := hr i e.symm; omega)
def idxV (L : List T.Lf) (q : T.Lf → Bool) : Int := match L.findIdx? q with | none => -1 | some i => i
theorem idx_skip {L : List T.Lf} {q : T.Lf → Bool} {k : Nat} {x : T.Lf} (hx : L[k]? = some x) (h : ∀ i, i < k → ∀ y, L[i]? = some y → q y = false) (hq : q x = false) : ∀ i, i < k + 1 → ∀ y, L[i]? = some y → q y = false := by
  intro i hi y hy
  by_cases e : i = k
  · subst e
    rw [hx] at hy
    injection hy with hy
    rw [← hy]
    exact hq
  · exact h i (by omega) y hy
theorem idx_hit {L : List T.Lf} {q : T.Lf → Bool} {k : Nat} {x : T.Lf} (hx : L[k]? = some x) (h : ∀ i, i < k → ∀ y, L[i]? = some y → q y = false) (hq : q x = true) : idxV L q = k := by
  obtain ⟨hk, hx⟩ := List.getElem?_eq_some_iff.1 hx
  have : L.findIdx? q = some k := by
    rw [List.findIdx?_eq_some_iff_getElem]
    refine ⟨hk, by rw [hx]; exact hq, fun j hj => ?_⟩
    have := h j hj L[j] (List.getElem?_eq_getElem (by omega))
    simp [this]
  rw [idxV, this]
theorem idx_miss {L : List T.Lf} {q : T.Lf → Bool} (h : ∀ i, i < L.length → ∀ y, L[i]? = some y → q y = false) : idxV L q = -1 := by
  have : L.findIdx? q = none := by
    rw [List.findIdx?_eq_none_iff]
    intro y hy
    obtain ⟨i, hi, he⟩ := List.mem_iff_getElem.1 hy
    exact h i hi y (by rw [List.getElem?_eq_getElem hi, he])
  rw [idxV, this]
theorem tret_int {a b : Int} (h : a = b) : Ending.returned (.int .i64 a) = .returned (.int .i64 b) := by rw [h]

set_option maxHeartbeats 1000000 in
theorem index_c (L : List T.Lf) (hf : ∀ k ∈ L, T.Fine k) (hl : L.length ≤ 8) (lo B : Nat) (v f : Value) (q : T.Lf → Bool) (w : World) (hA : T.Arr 135 w B v L) (ht : Tests lo w f q) :
    Calls Try.prog 69 #[v, f] w fun e w' => e = .returned (.int .i64 (idxV L q)) ∧ w.grownBy w' none := by
  rcases hA.parts with ⟨rfl, rfl⟩ | ⟨g, cap, cur, rfl, hB, hLd⟩
  · go_enter Try.func69, Try.ntmps69
    go_wp2_with fail
    go_loopw [8] (fun i wr => i = .int .i64 0 ∧ w = wr) (fun i _ => 0)
    case atStart => exact ⟨rfl, rfl⟩
    case round =>
      obtain ⟨rfl, rfl⟩ := hrel
      go_wp2_with fail
      go_ret
      exact ⟨rfl, gr_refl _ _⟩
  · have HL := Lib.hid hLd
    have HT := Lib.hid ht
    have HF := Lib.hid hf
    clear hLd ht hf hA
    go_enter Try.func69, Try.ntmps69
    go_wp2_with fail
    go_loopw [8] (fun i wr => ∃ k : Nat, k ≤ L.length ∧ i = .int .i64 k ∧ (∀ j, j < k → ∀ y, L[j]? = some y → q y = false) ∧ w.grownBy wr none) (fun i _ => L.length - (intOf i).toNat)
    case atStart => exact ⟨0, Nat.zero_le _, rfl, fun j hj => by omega, gr_refl _ _⟩
    case round =>
      obtain ⟨k, hk, rfl, hall, hG⟩ := hrel
      by_cases hlt : k < L.length
      · obtain ⟨x, hx⟩ : ∃ x, L[k]? = some x := ⟨L[k], List.getElem?_eq_getElem hlt⟩
        have hmem : x ∈ L := List.mem_of_getElem? hx
        obtain ⟨c0, c1, c2, c3, c4⟩ := (HL.out.keep hG (by simp)).cells hx
        obtain ⟨fn, cp, rfl, hcf, hc⟩ := HT.out.grown hG (by simp)
        unfold POpens at hcf
        have HC := Lib.hid (hc wr (fun _ _ _ => rfl) x (HF.out x hmem))
        have HX := Lib.hid hx
        have HAL := Lib.hid hall
        have GG := Lib.hid hG
        clear hc hmem hx hall hG
        unfold T.vT at HC
        cases hb : q x with
        | true =>
          rw [hb] at HC
          go_wp2_with fail
          refine HC.out.mono ?_
          rintro r w' ⟨rfl, hG⟩
          go_wp2_with fail
          go_ret
          exact ⟨tret_int (idx_hit HX.out HAL.out hb).symm, gr_trans GG.out hG⟩
        | false =>
          rw [hb] at HC
          go_wp2_with fail
          refine HC.out.mono ?_
          rintro r w' ⟨rfl, hG⟩
          go_wp2_with fail
          go_round
          case rel => exact ⟨k + 1, by omega, by go_num, idx_skip HX.out HAL.out hb, gr_trans GG.out hG⟩
          case measure => simp [intOf]; omega
      · obtain rfl : k = L.length := by omega
        have HAL := Lib.hid hall
        clear hall
        go_wp2_with fail
        go_ret
        exact ⟨tret_int (idx_miss HAL.out).symm, hG⟩
end Go.Proofs.Ytkfmcbhoendocaa
