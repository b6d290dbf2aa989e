/-
  A row of reservations of package amo: contracts over the program's translation.
  Conditions: the arguments are numbers of their kinds; the row stands behind its pointer.
-/
import Derived.Test.YtaanmebebapbpaaDoorAmoG
import Derived.Test.YtaanmebebapbpaaDoorAmoS
import Derived.Deep.RegionWith
namespace Go.Proofs.YtaanmebebapbpaaDoor
open Go Go.RowKit W M D A
set_option linter.unusedVariables false
set_option linter.unusedSimpArgs false

abbrev RAt (w : World) (p : Nat) (s : St) : Prop := Res 64 w p s
abbrev I64 (h : Int) : Prop := -9223372036854775808 ≤ h ∧ h ≤ 9223372036854775807

theorem isHart_c (h : Int) (hh : I64 h) (w : World) : Calls Tryd.prog 33 #[.int .i64 h] w fun e w' => e = .returned (.bool (isH h)) ∧ w = w' := by
  by_cases h0 : 0 ≤ h
  · go_enter Tryd.func33, Tryd.ntmps33
    go_wp2_with fail
    go_ret
    exact ⟨ret_boo (by simp [isH, h0]), rfl⟩
  · have d0 : decide (h ≥ 0) = false := by simpa using h0
    go_enter Tryd.func33, Tryd.ntmps33
    go_wp2_with fail
    go_ret
    exact ⟨ret_boo (by simp [isH]; omega), rfl⟩
theorem meet_c (b a n : Int) (hb : B64 b) (ha : B64 a) (hn : B64 n) (w : World) : Calls Tryd.prog 36 #[.int .u64 b, .int .u64 a, .int .u64 n] w fun e w' => e = .returned (.bool (meetV b a n)) ∧ w = w' := by
  unfold B64 at *
  unfold meetV
  rw [← u64_eq, ← u64_eq]
  by_cases h : IntKind.u64.wrap (a - b) < 8
  · go_enter Tryd.func36, Tryd.ntmps36
    go_wp2_with fail
    go_ret
    exact ⟨ret_boo (by simp [h]), rfl⟩
  · have d0 : decide (IntKind.u64.wrap (a - b) < 8) = false := by simpa using h
    go_enter Tryd.func36, Tryd.ntmps36
    go_wp2_with fail
    go_ret
    exact ⟨ret_boo (by simp [h]), rfl⟩
theorem pl_ret {fn : Func} {p : Tmp} (h : fn.results = #[.cell p 61]) {R : Ending → World → Prop} {a : Act} {w : World} {g : Nat} {a0 a1 : Value}
    (hp : a.tmps.getD p undef = .pointer (some ⟨g, 0, none⟩)) (hd : a.defers = []) (hR : Row w g 61 [a0, a1]) (hQ : R (.returned (.agg #[a0, a1])) w) :
    bodyPost Tryd.prog fn R .ret a w :=
  bodyPost_ret (results_cell_row h _ w g _ #[a0, a1] (0, 0) _ hp hR Tryd.underlying61 rfl (by kernel_rfl)) hd hQ
theorem gr_two {w0 w : World} {g i j : Nat} (h : w0.grownBy w none) (hg : w0.heap.size ≤ g) (a b : Value) : w0.grownBy ((w.setCell ⟨g, i, none⟩ a).setCell ⟨g, j, none⟩ b) none :=
  gr_row (gr_set (gr_set (gr_none h _) _) _) hg
theorem reserve_c (a : Int) (ha : B64 a) (w : World) : Calls Tryd.prog 34 #[.int .u64 a] w fun e w' => e = .returned (.agg #[.int .u64 (blk a), .bool true]) ∧ w.grownBy w' none := by
  unfold B64 at *
  have HR := Lib.hid (Row.fresh w 61 [.int .u64 (blk a), .bool true])
  have hb : IntKind.u64.wrap (a - a % 8) = blk a := by rw [u64_eq, blk]; omega
  go_enter Tryd.func34, Tryd.ntmps34
  go_wp2_with fail
  exact pl_ret rfl rfl rfl HR.out ⟨rfl, gr_alloc (gr_refl _ _) _⟩
theorem Fresh_c (w : World) : Calls Tryd.prog 16 #[] w fun e w' => e = .returned (.pointer (some ⟨w.heap.size, 0, none⟩)) ∧ RAt w' w.heap.size st0 ∧ w.grownBy w' none := by
  go_enter Tryd.func16, Tryd.ntmps16
  go_wp2_with fail
  go_ret
  exact ⟨rfl, ⟨Row.fresh w 64 (cel st0), good0⟩, gr_alloc (gr_refl _ _) _⟩
theorem Has_c (p : Nat) (s : St) (h : Int) (hh : I64 h) (w : World) (hR : RAt w p s) :
    Calls Tryd.prog 26 #[.pointer (some ⟨p, 0, none⟩), .int .i64 h] w fun e w' => e = .returned (.tuple #[.int .u64 (if isH h = true then atS s h.toNat else 0), .bool (isH h && isS s h.toNat)]) ∧ w.grownBy w' none := by
  have HH := Lib.hid (fun W => isHart_c h hh W)
  by_cases e : isH h = true
  · have := (isH_iff h).1 e
    obtain ⟨i, rfl⟩ : ∃ i : Nat, h = i := ⟨h.toNat, by omega⟩
    have hi : i < 8 := by omega
    rw [e] at HH ⊢
    rw [if_pos rfl, Int.toNat_natCast, Bool.true_and]
    have c0 := hR.at hi
    have c1 := hR.is hi
    go_enter Tryd.func26, Tryd.ntmps26
    go_wp2_with fail
    refine (HH.out _).mono ?_
    rintro e w' ⟨rfl, rfl⟩
    go_wp2_with fail
    go_quiet (fail)
    go_wp2_with fail
    go_ret2
    exact ⟨rfl, gr_drewN (gr_alloc (gr_refl _ _) _) _⟩
  · have e : isH h = false := by simpa using e
    rw [e] at HH ⊢
    go_enter Tryd.func26, Tryd.ntmps26
    go_wp2_with fail
    refine (HH.out _).mono ?_
    rintro e w' ⟨rfl, rfl⟩
    go_wp2_with fail
    go_ret2
    exact ⟨rfl, gr_refl _ _⟩
theorem Clone_c (p : Nat) (s : St) (w : World) (hR : RAt w p s) :
    Calls Tryd.prog 23 #[.pointer (some ⟨p, 0, none⟩)] w fun e w' => e = .returned (.pointer (some ⟨w.heap.size, 0, none⟩)) ∧ RAt w' w.heap.size s ∧ w.grownBy w' none := by
  have g := hR.good
  have hc := fun i (hi : i < 8) => hR.at hi
  have hs := fun i (hi : i < 8) => hR.is hi
  have a0 := hc 0 (by omega)
  have a1 := hc 1 (by omega)
  have a2 := hc 2 (by omega)
  have a3 := hc 3 (by omega)
  have a4 := hc 4 (by omega)
  have a5 := hc 5 (by omega)
  have a6 := hc 6 (by omega)
  have a7 := hc 7 (by omega)
  have b0 := hs 0 (by omega)
  have b1 := hs 1 (by omega)
  have b2 := hs 2 (by omega)
  have b3 := hs 3 (by omega)
  have b4 := hs 4 (by omega)
  have b5 := hs 5 (by omega)
  have b6 := hs 6 (by omega)
  have b7 := hs 7 (by omega)
  simp only [Nat.zero_mul, Nat.reduceMul, Nat.reduceAdd] at a0 a1 a2 a3 a4 a5 a6 a7 b0 b1 b2 b3 b4 b5 b6 b7
  clear hc hs
  have HF := Lib.hid (Row.fresh w 64 (cel s))
  rw [cel8 g.len] at HF
  go_enter Tryd.func23, Tryd.ntmps23
  go_wp2_with fail
  go_ret
  exact ⟨rfl, ⟨by rw [cel8 g.len]; exact HF.out, g⟩, gr_alloc (gr_refl _ _) _⟩
end Go.Proofs.YtaanmebebapbpaaDoor
