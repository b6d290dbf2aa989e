/-
  What the document's own Rd, Rs1, Rs2, Imm and Lay (package suzerainref03) are: contracts over the translation, each by the program's plain functions.
  Conditions: the arguments are numbers of their kinds.
-/
import Derived.Test.YtpbeamnogfjagaaGreatDoorFieldR
namespace Go.Proofs.YtpbeamnogfjagaaGreatDoor
open Go Go.RowKit F W M
set_option linter.unusedVariables false

set_option maxHeartbeats 400000 in
theorem rRd_c (x : Nat) (hx : x < 4294967296) (w : World) :
    Calls Tryz.prog 27 #[.int .u32 x] w fun e w' => e = .returned (.int .i64 (F.get x 7 5 : Nat)) ∧ w = w' := by
  have hl := get_lt x 7 5
  go_enter Tryz.func27, Tryz.ntmps27
  go_wp2_with fail
  refine (rGet_c x 7 5 hx (by omega) (by omega) _).mono ?_
  rintro e w1 ⟨rfl, rfl⟩
  rw [show gotV x 7 5 = F.get x 7 5 from gotV_nat x 7 5 (by omega)]
  go_wp2_with fail
  go_ret
  exact ⟨rfl, rfl⟩
set_option maxHeartbeats 400000 in
theorem rRs1_c (x : Nat) (hx : x < 4294967296) (w : World) :
    Calls Tryz.prog 28 #[.int .u32 x] w fun e w' => e = .returned (.int .i64 (F.get x 15 5 : Nat)) ∧ w = w' := by
  have hl := get_lt x 15 5
  go_enter Tryz.func28, Tryz.ntmps28
  go_wp2_with fail
  refine (rGet_c x 15 5 hx (by omega) (by omega) _).mono ?_
  rintro e w1 ⟨rfl, rfl⟩
  rw [show gotV x 15 5 = F.get x 15 5 from gotV_nat x 15 5 (by omega)]
  go_wp2_with fail
  go_ret
  exact ⟨rfl, rfl⟩
set_option maxHeartbeats 400000 in
theorem rRs2_c (x : Nat) (hx : x < 4294967296) (w : World) :
    Calls Tryz.prog 29 #[.int .u32 x] w fun e w' => e = .returned (.int .i64 (F.get x 20 5 : Nat)) ∧ w = w' := by
  have hl := get_lt x 20 5
  go_enter Tryz.func29, Tryz.ntmps29
  go_wp2_with fail
  refine (rGet_c x 20 5 hx (by omega) (by omega) _).mono ?_
  rintro e w1 ⟨rfl, rfl⟩
  rw [show gotV x 20 5 = F.get x 20 5 from gotV_nat x 20 5 (by omega)]
  go_wp2_with fail
  go_ret
  exact ⟨rfl, rfl⟩

def iv (ps : List Int) : List Value := ps.map (Value.int .i64)
theorem iv_at {ps : List Int} {k : Nat} {p : Int} {qs : List Int} (hd : ps.drop k = p :: qs) : (iv ps)[k]? = some (.int .i64 p) ∧ ps.drop (k + 1) = qs ∧ p ∈ ps ∧ k < ps.length := by
  have hk : k < ps.length := by
    apply Nat.lt_of_not_le
    intro hle
    rw [List.drop_eq_nil_of_le hle] at hd
    cases hd
  rw [List.drop_eq_getElem_cons hk] at hd
  injection hd with h1 h2
  refine ⟨?_, h2, h1 ▸ List.getElem_mem hk, hk⟩
  rw [iv, List.getElem?_map, List.getElem?_eq_getElem hk, h1]; rfl

/-- What places hands on: a new row. -/
def Placed (w : World) (f : Int) (e : Ending) (w' : World) : Prop :=
  e = .returned (.slice (some ⟨w.heap.size, 0, none⟩) (plcL f).length (plcL f).length) ∧ Row w' w.heap.size 3 (iv (plcL f)) ∧ w.grownBy w' none
set_option maxHeartbeats 1000000 in
theorem rplaces_c (f : Int) (h : 1 ≤ f ∧ f ≤ 5) (w : World) : Calls Tryz.prog 52 #[.int .i64 f] w (Placed w f) := by
  rcases (show f = 1 ∨ f = 2 ∨ f = 3 ∨ f = 4 ∨ f = 5 by omega) with rfl | rfl | rfl | rfl | rfl
  all_goals
    go_enter Tryz.func52, Tryz.ntmps52
    go_wp2
    go_ret
    exact ⟨rfl, by first | exact Row.fresh w _ (iv (plcL 1)) | exact Row.fresh w _ (iv (plcL 2)) | exact Row.fresh w _ (iv (plcL 3)) | exact Row.fresh w _ (iv (plcL 4)) | exact Row.fresh w _ (iv (plcL 5)), gr_alloc (gr_refl _ _) _⟩
set_option maxHeartbeats 400000 in
theorem rplaces_no (f : Int) (h : f < 1 ∨ 5 < f) (w : World) : Calls Tryz.prog 52 #[.int .i64 f] w fun e w' => e = .returned (.slice none 0 0) ∧ w = w' := by
  have h1 : f ≠ 1 := by omega
  have h2 : f ≠ 2 := by omega
  have h3 : f ≠ 3 := by omega
  have h4 : f ≠ 4 := by omega
  have h5 : f ≠ 5 := by omega
  clear h
  go_enter Tryz.func52, Tryz.ntmps52
  go_wp2
  go_ret
  exact ⟨rfl, rfl⟩
end Go.Proofs.YtpbeamnogfjagaaGreatDoor
