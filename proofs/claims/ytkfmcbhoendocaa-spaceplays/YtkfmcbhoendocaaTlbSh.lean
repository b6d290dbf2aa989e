/-
  The head of layer 12's statements: a contract over the program's translation.
  Conditions: none.
-/
import Derived.Test.YtkfmcbhoendocaaTlbT
namespace Go.Proofs.Ytkfmcbhoendocaa
open Go Go.RowKit W M D A C P K
set_option linter.unusedVariables false

theorem but_grown {w w1 w2 : World} {B p most : Nat} {v : Value} {n : Int} {L : List T.Lf} (hg : w.grownBy w1 none) (h : HAt w1 B p most v n L) (hB : w.heap.size ≤ B) (hb : T.But p v w1 w2) : w.grownBy w2 none :=
  ⟨hb.os.trans hg.os, hb.tape.trans hg.tape, hb.output.trans hg.output, Nat.le_trans hg.size hb.size, fun k hk _ => by
    have h1 := hg.size
    have h2 := h.own
    rw [hb.block k (by omega) (by omega) (fun e => by have := (h.arr.lt e.symm).1; omega)]
    exact hg.block k hk (by simp)⟩
theorem turned_grown {w w1 w2 : World} {B p most : Nat} {v : Value} {n n' : Int} {L L' : List T.Lf} (hg : w.grownBy w1 none) (h : HAt w1 B p most v n L) (hB : w.heap.size ≤ B) (ht : Turned w1 B p most v n' L' w2) : w.grownBy w2 none := by
  obtain ⟨v', -, -, hb⟩ := ht
  exact but_grown hg h hB hb
def k1 : T.Lf := ⟨4096, 0, 0, 0, false⟩
def k2 : T.Lf := ⟨8192, 0, 0, 0, false⟩
theorem k1_fine : T.Fine k1 := by unfold T.Fine k1 B64; decide
theorem k2_fine : T.Fine k2 := by unfold T.Fine k2 B64; decide
set_option maxRecDepth 100000 in
set_option maxHeartbeats 4000000 in
theorem shown12_c (w : World) : Calls Try.prog 12 #[] w fun e w' => e = .returned (.bool true) ∧ w.grownBy w' none := by
  have NW := Lib.hid (fun W => TNew_c 1 (by unfold I64; omega) W)
  have P1 := Lib.hid (fun W B p most v n L hB hW => TPut_c B p most v n L k1 k1_fine W hB hW)
  have P2 := Lib.hid (fun W B p most v n L hB hW => TPut_c B p most v n L k2 k2_fine W hB hW)
  have F1 := Lib.hid (fun W B p most v n L hW => Find_c B p most v n L 4096 0 (by unfold B64; omega) (by unfold B64; omega) W hW)
  have F2 := Lib.hid (fun W B p most v n L hW => Find_c B p most v n L 8200 0 (by unfold B64; omega) (by unfold B64; omega) W hW)
  have LN := Lib.hid (fun W B p most v n L hW => Len_c B p most v n L W hW)
  unfold k1 vLeaf at P1
  unfold k2 vLeaf at P2
  simp only at P1 P2
  go_enter Try.func12, Try.ntmps12
  go_wp2_with fail
  refine (NW.out _).mono ?_
  rintro e w1 ⟨rfl, h1, g1⟩
  generalize hp : w.heap.size = p at *
  have HG1 := Lib.hid g1
  have H1 := Lib.hid h1
  have s1 := g1.size
  clear g1 h1
  go_wp2_with fail
  refine (P1.out _ _ _ _ _ _ _ (by omega) H1.out).mono ?_
  rintro e w2 ⟨rfl, h2⟩
  have hg2 := turned_grown HG1.out H1.out (by omega) h2
  obtain ⟨v2, h2, -, -⟩ := h2
  have HG2 := Lib.hid hg2
  have H2 := Lib.hid h2
  have s2 := hg2.size
  clear hg2 h2 HG1 H1
  go_wp2_with fail
  refine (P2.out _ _ _ _ _ _ _ (by omega) H2.out).mono ?_
  rintro e w3 ⟨rfl, h3⟩
  have hg3 := turned_grown HG2.out H2.out (by omega) h3
  obtain ⟨v3, h3, -, -⟩ := h3
  rw [show T.putT (T.mostV 1) (T.putT (T.mostV 1) [] { va := 4096, asid := 0, pte := 0, lev := 0, glob := false }) { va := 8192, asid := 0, pte := 0, lev := 0, glob := false } = [{ va := 8192, asid := 0, pte := 0, lev := 0, glob := false }] from rfl] at h3
  have HG3 := Lib.hid hg3
  have H3 := Lib.hid h3
  clear hg3 h3 HG2 H2
  go_wp2_with fail
  refine (F1.out _ _ _ _ _ _ _ H3.out).mono ?_
  rw [show T.findT [{ va := 8192, asid := 0, pte := 0, lev := 0, glob := false }] 4096 0 = none from rfl, show vGot (none : Option T.Lf) = .agg #[.int .u64 0, .int .i64 0, .bool false] from rfl, show (none : Option T.Lf).isSome = false from rfl]
  rintro e w4 ⟨rfl, g4⟩
  have hg4 := gr_alloc (gr_trans HG3.out g4) (.cells #[.int .u64 0, .int .i64 0, .bool false] 52)
  have h4 := (H3.out.kept g4).kept (gr_alloc (gr_refl w4 none) (.cells #[.int .u64 0, .int .i64 0, .bool false] 52))
  have HG4 := Lib.hid hg4
  have H4 := Lib.hid h4
  clear hg4 h4 g4 HG3 H3
  go_upto_region 7 with (fail)
  generalize w4.alloc (.cells #[.int .u64 0, .int .i64 0, .bool false] 52) = U4 at *
  go_wp2_with fail
  refine (F2.out _ _ _ _ _ _ _ H4.out).mono ?_
  rw [show T.findT [{ va := 8192, asid := 0, pte := 0, lev := 0, glob := false }] 8200 0 = some { va := 8192, asid := 0, pte := 0, lev := 0, glob := false } from rfl, show vGot (some ({ va := 8192, asid := 0, pte := 0, lev := 0, glob := false } : T.Lf)) = .agg #[.int .u64 0, .int .i64 0, .bool false] from rfl, show (some ({ va := 8192, asid := 0, pte := 0, lev := 0, glob := false } : T.Lf)).isSome = true from rfl]
  rintro e w5 ⟨rfl, g5⟩
  have hg5 := gr_alloc (gr_trans HG4.out g5) (.cells #[.int .u64 0, .int .i64 0, .bool false] 52)
  have h5 := (H4.out.kept g5).kept (gr_alloc (gr_refl w5 none) (.cells #[.int .u64 0, .int .i64 0, .bool false] 52))
  have HG5 := Lib.hid hg5
  have H5 := Lib.hid h5
  clear hg5 h5 g5 HG4 H4
  go_upto_region 8 with (fail)
  generalize w5.alloc (.cells #[.int .u64 0, .int .i64 0, .bool false] 52) = U5 at *
  go_wp2_with fail
  refine (LN.out _ _ _ _ _ _ _ H5.out).mono ?_
  rintro e w6 ⟨rfl, rfl⟩
  go_wp2_with fail
  go_ret
  exact ⟨rfl, HG5.out⟩
end Go.Proofs.Ytkfmcbhoendocaa
