/-
  The head of layer 11's statements: a contract over the program's translation.
  Conditions: none.
-/
import Derived.Test.YtaeloplmcinagaaWalkT
import Derived.Deep.RegionHeld3
namespace Go.Proofs.Ytaeloplmcinagaa
open Go Go.RowKit W M D A C P K
set_option linter.unusedVariables false

theorem fld_cause (a b c : Value) (w : World) : (Instr.field 38 (.agg #[a, b, c]) 1).run Try.prog w = .ok b w := by kernel_rfl
def zC12 : Cs := [0, 0, 0, 0, 0, 0, 0, 0, 0, 0, 0, 0]
theorem zC_good : C.Good zC12 := ⟨rfl, fun x hx => by simp only [zC12, List.mem_cons, List.mem_nil_iff, or_self, or_false] at hx; subst hx; unfold B64; omega⟩
set_option maxRecDepth 100000 in
set_option maxHeartbeats 4000000 in
theorem shown11_c (w : World) : Calls Try.prog 8 #[] w fun e w' => e = .returned (.bool true) ∧ w.grownBy w' none := by
  have TO := Lib.hid (show ∀ (p g : Nat) (bs : List Int) (W : World), RAt W p g bs → Calls Try.prog 12 #[.pointer (some ⟨p, 0, none⟩), .agg #[.int .u64 0, .int .u64 0, .int .u64 0, .int .u64 0, .int .u64 0, .int .u64 0, .int .u64 0, .int .u64 0, .int .u64 0, .int .u64 0, .int .u64 0, .int .u64 0], .int .i64 1, .int .i64 1, .int .u64 5] W fun e w' => e = .returned (.tuple #[.int .u64 5, .agg #[.bool false, .int .i64 0, .int .u64 0]]) ∧ W.grownBy w' none from fun p g bs W hW =>
    (To_c p g bs zC12 zC_good 1 1 5 (by unfold I64; omega) (by unfold I64; omega) (by unfold B64; omega) W hW).mono fun e w' ⟨he, hg⟩ => ⟨he.trans (by rw [show toV bs (gC zC12 9) (gC zC12 0) 1 1 5 = 5 from if_neg (by decide +kernel), show walkV bs (gC zC12 9) (gC zC12 0) 1 1 5 = foundV 0 0 false from if_neg (by decide +kernel)]; rfl), hg⟩)
  have PF := Lib.hid (fun W => PageFault_c 2 7 (by unfold I64; omega) W)
  unfold vFault at PF
  rw [show pfC 2 = 15 from rfl] at PF
  go_enter Try.func8, Try.ntmps8
  go_wp2_with fail
  refine (New_yes 1 (by omega) (by omega) _).mono ?_
  rintro e w1 ⟨rfl, hA, hG⟩
  go_wp2_with fail
  refine (TO.out _ _ _ _ hA).mono ?_
  rintro e w2 ⟨rfl, hG2⟩
  have hg := gr_trans hG hG2
  clear hA hG hG2
  go_wp2_with fail
  refine (PF.out _).mono ?_
  rintro e w3 ⟨rfl, hG3⟩
  have fc := fun W => fld_cause (.bool true) (.int .i64 15) (.int .u64 7) W
  have hg3 := gr_trans (gr_alloc hg (.cells #[.bool false, .int .i64 0, .int .u64 0] 38)) hG3
  clear hg hG3
  go_wp2_with fail
  go_ret
  exact ⟨rfl, hg3⟩
end Go.Proofs.Ytaeloplmcinagaa
