/-
  All reservations, hart by hart, and whether they are those of the document's own row: contracts over the translation.
  Conditions: the rows stand behind their pointers.
-/
import Derived.Test.YtaanmebebapbpaaDoorAmoQ
import Derived.Test.YtaanmebebapbpaaDoorAmoP
namespace Go.Proofs.YtaanmebebapbpaaDoor
open Go Go.RowKit W M D A
set_option linter.unusedVariables false
set_option linter.unusedSimpArgs false

def bC (f : Nat → Bool) : List Value := [.bool (f 0), .bool (f 1), .bool (f 2), .bool (f 3), .bool (f 4), .bool (f 5), .bool (f 6), .bool (f 7)]
def iC (f : Nat → Int) : List Value := [.int .u64 (f 0), .int .u64 (f 1), .int .u64 (f 2), .int .u64 (f 3), .int .u64 (f 4), .int .u64 (f 5), .int .u64 (f 6), .int .u64 (f 7)]
theorem eight' (k : Nat) (hk : k < 8) : k = 0 ∨ k = 1 ∨ k = 2 ∨ k = 3 ∨ k = 4 ∨ k = 5 ∨ k = 6 ∨ k = 7 := by omega
theorem bC_get (f : Nat → Bool) (k : Nat) (hk : k < 8) : (bC f)[k]? = some (.bool (f k)) := by
  rcases eight' k hk with rfl | rfl | rfl | rfl | rfl | rfl | rfl | rfl <;> rfl
theorem iC_get (f : Nat → Int) (k : Nat) (hk : k < 8) : (iC f)[k]? = some (.int .u64 (f k)) := by
  rcases eight' k hk with rfl | rfl | rfl | rfl | rfl | rfl | rfl | rfl <;> rfl
theorem bC_set (f : Nat → Bool) (k : Nat) (hk : k < 8) (v : Bool) : (bC f).set k (.bool v) = bC (fun i => if i = k then v else f i) := by
  rcases eight' k hk with rfl | rfl | rfl | rfl | rfl | rfl | rfl | rfl <;> rfl
theorem iC_set (f : Nat → Int) (k : Nat) (hk : k < 8) (v : Int) : (iC f).set k (.int .u64 v) = iC (fun i => if i = k then v else f i) := by
  rcases eight' k hk with rfl | rfl | rfl | rfl | rfl | rfl | rfl | rfl <;> rfl
theorem bC_cong {f g : Nat → Bool} (h : ∀ j, j < 8 → f j = g j) : bC f = bC g := by
  unfold bC; rw [h 0 (by omega), h 1 (by omega), h 2 (by omega), h 3 (by omega), h 4 (by omega), h 5 (by omega), h 6 (by omega), h 7 (by omega)]
theorem iC_cong {f g : Nat → Int} (h : ∀ j, j < 8 → f j = g j) : iC f = iC g := by
  unfold iC; rw [h 0 (by omega), h 1 (by omega), h 2 (by omega), h 3 (by omega), h 4 (by omega), h 5 (by omega), h 6 (by omega), h 7 (by omega)]

/-- Both rows say the same. -/
def Agree (s r : St) : Prop := ∀ i, i < 8 → isS r i = isS s i ∧ (isS s i = true → atS r i = atS s i)
set_option maxHeartbeats 1000000 in
theorem Same_c (p : Nat) (s r : St) (hA : Agree s r) (w : World) (hR : QAt w p r) :
    Calls Tryd.prog 25 #[.pointer (some ⟨p, 0, none⟩), .agg #[.bool (isS s 0), .bool (isS s 1), .bool (isS s 2), .bool (isS s 3), .bool (isS s 4), .bool (isS s 5), .bool (isS s 6), .bool (isS s 7)], .agg #[.int .u64 (atS s 0), .int .u64 (atS s 1), .int .u64 (atS s 2), .int .u64 (atS s 3), .int .u64 (atS s 4), .int .u64 (atS s 5), .int .u64 (atS s 6), .int .u64 (atS s 7)]] w fun e w' => e = .returned (.bool true) ∧ w.grownBy w' none := by
  have hG := gr_alloc (gr_alloc (gr_refl w none) (.cells (bC (isS s)).toArray 32)) (.cells (iC (atS s)).toArray 33)
  have hB := (Row.fresh w 32 (bC (isS s))).alloc (.cells (iC (atS s)).toArray 33)
  have hI := Row.fresh (w.alloc (.cells (bC (isS s)).toArray 32)) 33 (iC (atS s))
  have hQ := hR.kept hG
  have hsz : (w.alloc (.cells (bC (isS s)).toArray 32)).heap.size = w.heap.size + 1 := by simp
  rw [hsz] at hI
  have hw : ∃ V, V = (w.alloc (.cells (bC (isS s)).toArray 32)).alloc (.cells (iC (atS s)).toArray 33) := ⟨_, rfl⟩
  obtain ⟨V, hV⟩ := hw
  rw [← hV] at hG hB hI hQ
  have HV := Lib.hid hV
  clear hV hsz hR
  go_enter Tryd.func25, Tryd.ntmps25
  go_wp2_with fail
  have hV' : (w.alloc (.cells #[.bool (isS s 0), .bool (isS s 1), .bool (isS s 2), .bool (isS s 3), .bool (isS s 4), .bool (isS s 5), .bool (isS s 6), .bool (isS s 7)] 32)).alloc (.cells #[.int .u64 (atS s 0), .int .u64 (atS s 1), .int .u64 (atS s 2), .int .u64 (atS s 3), .int .u64 (atS s 4), .int .u64 (atS s 5), .int .u64 (atS s 6), .int .u64 (atS s 7)] 33) = V := HV.out.symm
  rw [hV']
  clear hV'
  generalize w.heap.size = q at *
  go_loopw [7] (fun i wr => ∃ (k n : Nat), k ≤ 8 ∧ i = .int .i64 k ∧ wr = V.drewN n) (fun i _ => 8 - (intOf i).toNat)
  case atStart => exact ⟨0, 0, by omega, rfl, rfl⟩
  case round =>
    obtain ⟨k, n, hk, rfl, rfl⟩ := hrel
    by_cases hk8 : k < 8
    · have c0 := hQ.is hk8
      have c1 := hQ.at hk8
      have c2 := (hB.cell k).trans (bC_get _ k hk8)
      have c3 := (hI.cell k).trans (iC_get _ k hk8)
      obtain ⟨e1, e2⟩ := hA k hk8
      rw [e1] at c0
      have E2 := Lib.hid e2
      clear e1 e2
      generalize isS s k = t at *
      cases t
      · go_wp2_with fail
        go_quiet (fail)
        go_wp2_with fail
        go_roundw
        case rel => exact ⟨k + 1, _, by omega, by go_num, rfl⟩
        case measure => simp [intOf]; omega
      · rw [E2.out rfl] at c1
        go_wp2_with fail
        go_quiet (fail)
        go_wp2_with fail
        go_roundw
        case rel => exact ⟨k + 1, _, by omega, by go_num, rfl⟩
        case measure => simp [intOf]; omega
    · obtain rfl : k = 8 := by omega
      go_wp2_with fail
      go_ret
      exact ⟨rfl, gr_drewN hG _⟩
end Go.Proofs.YtaanmebebapbpaaDoor
