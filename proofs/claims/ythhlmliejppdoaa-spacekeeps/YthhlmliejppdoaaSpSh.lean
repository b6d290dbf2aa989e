/-
  The head of layer 13's statements: the document's example (shown): a contract over the program's translation.
  Conditions: none.
-/
import Derived.Test.YthhlmliejppdoaaSpI
import Derived.Test.YthhlmliejppdoaaLayB
namespace Go.Proofs.Ythhlmliejppdoaa
open Go Go.RowKit W M D A C P K
set_option linter.unusedVariables false

def c0 : Cs := [0, 0, 0, 0, 0, 0, 0, 0, 0, 0, 0, 0]
theorem c0_good : C.Good c0 := by unfold c0; exact good12 (by unfold B64; omega) (by unfold B64; omega) (by unfold B64; omega) (by unfold B64; omega) (by unfold B64; omega) (by unfold B64; omega) (by unfold B64; omega) (by unfold B64; omega) (by unfold B64; omega) (by unfold B64; omega) (by unfold B64; omega) (by unfold B64; omega)
def r0 : S.Ans := ⟨K.foundV 0 0 false, [2147483649, 2147483650, 2147483651, 2147483652], [], 0⟩
def r1 : S.Ans := ⟨K.foundV 0 0 false, [2147483648, 2147483649, 2147483650, 2147483651, 2147483652, 2147483653, 2147483654, 2147483655], [], 0⟩
theorem r0_is : S.realsV (List.replicate 4096 0) 0 (gC c0 9) (gC c0 0) 1 2 2147483649 (4 : Nat) [] 0 = r0 := by kernel_rfl
theorem r1_is : S.realsV (S.storeX (List.replicate 4096 0) r0.all 7) 0 (gC c0 9) (gC c0 0) 1 1 2147483648 (8 : Nat) [] 0 = r1 := by kernel_rfl
theorem x1_is : S.loadX (S.storeX (List.replicate 4096 0) r0.all 7) r1.all = 1792 := by kernel_rfl
theorem shown13_c (w : World) : Calls Try.prog 33 #[] w fun e w' => e = .returned (.bool true) ∧ w.grownBy w' none := by
  have ST := Lib.hid (fun pm gm B W hW => SStore_c pm gm (List.replicate 4096 0) c0 c0_good 1 2147483649 4 7 (by unfold I64; omega) (by unfold B64; omega) (by omega) (by unfold B64; omega) B none 0 0 [] W hW r0 r0_is)
  have LD := Lib.hid (fun pm gm B W hW => SLoad_c pm gm (S.storeX (List.replicate 4096 0) r0.all 7) c0 c0_good 1 2147483648 8 (by unfold I64; omega) (by unfold B64; omega) (by omega) B none 0 0 [] W hW r1 r1_is)
  rw [x1_is] at LD
  have N1 := Lib.hid (fun W => New_yes 1 (by omega) (by omega) W)
  unfold Made at N1
  rw [show (1 * 4096 : Nat) = 4096 from rfl] at N1
  generalize List.replicate 4096 (0 : Int) = z at *
  generalize S.storeX z r0.all 7 = z1 at *
  unfold vS vT at ST LD
  simp only [Option.map_none] at ST LD
  rw [show vC c0 = .agg #[.int .u64 0, .int .u64 0, .int .u64 0, .int .u64 0, .int .u64 0, .int .u64 0, .int .u64 0, .int .u64 0, .int .u64 0, .int .u64 0, .int .u64 0, .int .u64 0] from rfl] at *
  rw [show vF r0.f = .agg #[.bool false, .int .i64 0, .int .u64 0] from rfl] at ST
  rw [show vF r1.f = .agg #[.bool false, .int .i64 0, .int .u64 0] from rfl] at LD
  go_enter Try.func33, Try.ntmps33
  go_wp2_with fail
  refine (N1.out _).mono ?_
  rintro e w1 ⟨rfl, hA, hG⟩
  have hS0 : Spc w1 w.heap.size (w.heap.size + 1) w.heap.size z none 0 0 [] := ⟨hA, Nat.le_refl _, rfl, rfl⟩
  have hg := gr_alloc (gr_refl w1 none) (.cells #[.pointer (some ⟨w.heap.size + 1, 0, none⟩), .pointer none] 73)
  have hr := Row.fresh w1 73 [.pointer (some ⟨w.heap.size + 1, 0, none⟩), .pointer none]
  have hS := hS0.keep hg
  have hG1 := gr_trans hG hg
  clear hA hG hg hS0
  go_upto_region 5 with (fail)
  replace hr : Row (w1.alloc (.cells #[.pointer (some ⟨w.heap.size + 1, 0, none⟩), .pointer none] 73)) w1.heap.size 73 [.pointer (some ⟨w.heap.size + 1, 0, none⟩), .pointer none] := hr
  generalize w1.alloc (.cells #[.pointer (some ⟨w.heap.size + 1, 0, none⟩), .pointer none] 73) = U at *
  generalize w1.heap.size = s at *
  have s0 := hr.cell 0
  have s1 := hr.cell 1
  simp only [List.getElem?_cons_zero, List.getElem?_cons_succ] at s0 s1
  have sl := hr.lt
  have HR := Lib.hid hr
  have HS := Lib.hid (And.intro hS hG1)
  clear hr hS hG1
  go_wp2_with fail
  refine (ST.out _ _ _ _ HS.out.1).mono ?_
  rintro e w2 ⟨v, rfl, hA, hS, hF⟩
  obtain ⟨g, rfl, hRow, -⟩ : ∃ g, v = .slice (some ⟨g, 0, none⟩) 4 4 ∧ Row w2 g 35 (wrds r0.all) ∧ w.heap.size ≤ w2.heap.size := by
    rcases hA with ⟨h, -⟩ | ⟨g, h1, h2, -⟩
    · cases h
    · exact ⟨g, h1, h2, by have := hF.size; have := HS.out.2.size; omega⟩
  have hr2 := hF.row HR.out (by decide) (by decide) (HR.out.apart HS.out.1.mem.row (by decide))
  have hG2 := hF.grown HS.out.2 (Nat.le_refl _)
  have hg := gr_alloc (gr_refl w2 none) (.cells #[.bool false, .int .i64 0, .int .u64 0] 49)
  have f1 := Row.fresh w2 49 [.bool false, .int .i64 0, .int .u64 0]
  have hr3 := hr2.grown hg (by simp)
  have hS3 := hS.keep hg
  have hG3 := gr_trans hG2 hg
  clear s0 s1 sl HR HS hA hS hF hRow hr2 hG2 hg
  go_upto_region 6 with (fail)
  replace f1 : Row (w2.alloc (.cells #[.bool false, .int .i64 0, .int .u64 0] 49)) w2.heap.size 49 [.bool false, .int .i64 0, .int .u64 0] := f1
  generalize w2.alloc (.cells #[.bool false, .int .i64 0, .int .u64 0] 49) = V at *
  generalize w2.heap.size = f at *
  have s0 := hr3.cell 0
  have s1 := hr3.cell 1
  simp only [List.getElem?_cons_zero, List.getElem?_cons_succ] at s0 s1
  have sl := hr3.lt
  have HS := Lib.hid (And.intro hS3 (And.intro hG3 f1))
  clear hr3 hS3 hG3 f1
  go_wp2_with fail
  refine (LD.out _ _ _ _ HS.out.1).mono ?_
  rintro e w3 ⟨rfl, hS, hF⟩
  have f2 := hF.row HS.out.2.2 (by decide) (by decide) (HS.out.2.2.apart HS.out.1.mem.row (by decide))
  have hG4 := hF.grown HS.out.2.1 (Nat.le_refl _)
  have hg := gr_alloc (gr_refl w3 none) (.cells #[.bool false, .int .i64 0, .int .u64 0] 49)
  have f3 := f2.grown hg (by simp)
  have f4 := Row.fresh w3 49 [.bool false, .int .i64 0, .int .u64 0]
  have hG5 := gr_trans hG4 hg
  clear s0 s1 sl HS hS hF f2 hG4 hg
  go_upto_region 7 with (fail)
  replace f4 : Row (w3.alloc (.cells #[.bool false, .int .i64 0, .int .u64 0] 49)) w3.heap.size 49 [.bool false, .int .i64 0, .int .u64 0] := f4
  generalize w3.alloc (.cells #[.bool false, .int .i64 0, .int .u64 0] 49) = X at *
  generalize w3.heap.size = f' at *
  obtain ⟨⟨m0, -, -⟩, -, ml⟩ := fault_free f3
  obtain ⟨⟨n0, -, -⟩, -, nl⟩ := fault_free f4
  have HG := Lib.hid hG5
  clear f3 f4 hG5
  go_wp2_with fail
  go_ret
  exact ⟨rfl, HG.out⟩
end Go.Proofs.Ythhlmliejppdoaa
