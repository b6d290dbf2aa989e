/-
  All reservations, hart by hart: a contract over the translation.
  Conditions: the row stands behind its pointer.
-/
import Derived.Test.YtaanmebebapbpaaDoorAmoQ3
namespace Go.Proofs.YtaanmebebapbpaaDoor
open Go Go.RowKit W M D A
set_option linter.unusedVariables false
set_option linter.unusedSimpArgs false

/-- How the law's arrays stand behind k harts: two results, two that are filled. -/
structure Fill (w : World) (q p : Nat) (s : St) (k : Nat) (wr : World) (f : Nat → Bool) (g : Nat → Int) : Prop where
  r0 : Row wr q 32 (bC fun _ => false)
  r1 : Row wr (q + 1) 33 (iC fun _ => 0)
  r2 : Row wr (q + 1 + 1) 32 (bC f)
  r3 : Row wr (q + 1 + 1 + 1) 33 (iC g)
  res : RAt wr p s
  lt : p < q
  sz : w.heap.size = q
  gr : w.grownBy wr none
  eq : ∀ j, j < k → f j = isS s j ∧ g j = atS s j
theorem Fill.start (w : World) (p : Nat) (s : St) (hR : RAt w p s) : Fill w w.heap.size p s 0 ((((w.alloc (.cells #[.bool false, .bool false, .bool false, .bool false, .bool false, .bool false, .bool false, .bool false] 32)).alloc (.cells #[.int .u64 0, .int .u64 0, .int .u64 0, .int .u64 0, .int .u64 0, .int .u64 0, .int .u64 0, .int .u64 0] 33)).alloc (.cells #[.bool false, .bool false, .bool false, .bool false, .bool false, .bool false, .bool false, .bool false] 32)).alloc (.cells #[.int .u64 0, .int .u64 0, .int .u64 0, .int .u64 0, .int .u64 0, .int .u64 0, .int .u64 0, .int .u64 0] 33)) (fun _ => false) (fun _ => 0) := by
  have a0 := Row.fresh w 32 (bC fun _ => false)
  have a1 := Row.fresh (w.alloc (.cells #[.bool false, .bool false, .bool false, .bool false, .bool false, .bool false, .bool false, .bool false] 32)) 33 (iC fun _ => 0)
  have a2 := Row.fresh ((w.alloc (.cells #[.bool false, .bool false, .bool false, .bool false, .bool false, .bool false, .bool false, .bool false] 32)).alloc (.cells #[.int .u64 0, .int .u64 0, .int .u64 0, .int .u64 0, .int .u64 0, .int .u64 0, .int .u64 0, .int .u64 0] 33)) 32 (bC fun _ => false)
  have a3 := Row.fresh (((w.alloc (.cells #[.bool false, .bool false, .bool false, .bool false, .bool false, .bool false, .bool false, .bool false] 32)).alloc (.cells #[.int .u64 0, .int .u64 0, .int .u64 0, .int .u64 0, .int .u64 0, .int .u64 0, .int .u64 0, .int .u64 0] 33)).alloc (.cells #[.bool false, .bool false, .bool false, .bool false, .bool false, .bool false, .bool false, .bool false] 32)) 33 (iC fun _ => 0)
  simp only [World.alloc, Array.size_push] at a1 a2 a3
  have hg := gr_alloc (gr_alloc (gr_alloc (gr_alloc (gr_refl w none) (.cells #[.bool false, .bool false, .bool false, .bool false, .bool false, .bool false, .bool false, .bool false] 32)) (.cells #[.int .u64 0, .int .u64 0, .int .u64 0, .int .u64 0, .int .u64 0, .int .u64 0, .int .u64 0, .int .u64 0] 33)) (.cells #[.bool false, .bool false, .bool false, .bool false, .bool false, .bool false, .bool false, .bool false] 32)) (.cells #[.int .u64 0, .int .u64 0, .int .u64 0, .int .u64 0, .int .u64 0, .int .u64 0, .int .u64 0, .int .u64 0] 33)
  exact ⟨((a0.alloc _).alloc _).alloc _, (a1.alloc _).alloc _, a2.alloc _, a3, hR.kept hg, hR.row.lt, rfl, hg, fun j hj => absurd hj (by omega)⟩
theorem Fill.keep {w wr ws : World} {q p : Nat} {s : St} {k : Nat} {f : Nat → Bool} {g : Nat → Int} (h : Fill w q p s k wr f g) (hg : wr.grownBy ws none) : Fill w q p s k ws f g :=
  ⟨h.r0.grown hg (by simp), h.r1.grown hg (by simp), h.r2.grown hg (by simp), h.r3.grown hg (by simp), h.res.kept hg, h.lt, h.sz, gr_trans h.gr hg, h.eq⟩
theorem Fill.next {w wr : World} {q p : Nat} {s : St} {k : Nat} {f : Nat → Bool} {g : Nat → Int} (h : Fill w q p s k wr f g) (hk : k < 8) :
    Fill w q p s (k + 1) ((wr.setCell ⟨q + 1 + 1, k, none⟩ (.bool (isS s k))).setCell ⟨q + 1 + 1 + 1, k, none⟩ (.int .u64 (atS s k))) (fun i => if i = k then isS s k else f i) (fun i => if i = k then atS s k else g i) := by
  have l := h.lt
  have z := h.sz
  refine ⟨(h.r0.other (by simp; omega) _).other (by simp; omega) _, (h.r1.other (by simp) _).other (by simp) _, ?_, ?_, ⟨(h.res.row.other (by simp; omega) _).other (by simp; omega) _, h.res.good⟩, l, z, ?_, ?_⟩
  · rw [← bC_set _ _ hk]; exact (h.r2.put _ _).other (by simp) _
  · rw [← iC_set _ _ hk]; exact (h.r3.other (by simp) _).put _ _
  · exact gr_row (gr_set (gr_none (gr_row (gr_set (gr_none h.gr _) _) (by omega)) _) _) (by omega)
  · intro j hj
    by_cases e : j = k
    · subst e; simp
    · simp only [if_neg e]; exact h.eq j (by omega)
/-- Eight cells of a row written one after the other. -/
theorem put8 {w : World} {g : Nat} {t : TypeId} {l : List Value} (h : Row w g t l) (hl : l.length = 8) (a0 a1 a2 a3 a4 a5 a6 a7 : Value) :
    Row ((((((((w.setCell ⟨g, 0, none⟩ (a0)).setCell ⟨g, 1, none⟩ (a1)).setCell ⟨g, 2, none⟩ (a2)).setCell ⟨g, 3, none⟩ (a3)).setCell ⟨g, 4, none⟩ (a4)).setCell ⟨g, 5, none⟩ (a5)).setCell ⟨g, 6, none⟩ (a6)).setCell ⟨g, 7, none⟩ (a7)) g t [a0, a1, a2, a3, a4, a5, a6, a7] := by
  have := (((((((h.put 0 a0).put 1 a1).put 2 a2).put 3 a3).put 4 a4).put 5 a5).put 6 a6).put 7 a7
  match l, hl, this with
  | [_, _, _, _, _, _, _, _], _, this => exact this
theorem oth8 {w : World} {g g' : Nat} {t : TypeId} {l : List Value} (h : Row w g' t l) (hn : g' ≠ g) (a0 a1 a2 a3 a4 a5 a6 a7 : Value) : Row ((((((((w.setCell ⟨g, 0, none⟩ (a0)).setCell ⟨g, 1, none⟩ (a1)).setCell ⟨g, 2, none⟩ (a2)).setCell ⟨g, 3, none⟩ (a3)).setCell ⟨g, 4, none⟩ (a4)).setCell ⟨g, 5, none⟩ (a5)).setCell ⟨g, 6, none⟩ (a6)).setCell ⟨g, 7, none⟩ (a7)) g' t l :=
  (((((((h.other hn _).other hn _).other hn _).other hn _).other hn _).other hn _).other hn _).other hn _
theorem gr8 {w0 w : World} {g : Nat} (h : w0.grownBy w none) (hg : w0.heap.size ≤ g) (a0 a1 a2 a3 a4 a5 a6 a7 : Value) : w0.grownBy ((((((((w.setCell ⟨g, 0, none⟩ (a0)).setCell ⟨g, 1, none⟩ (a1)).setCell ⟨g, 2, none⟩ (a2)).setCell ⟨g, 3, none⟩ (a3)).setCell ⟨g, 4, none⟩ (a4)).setCell ⟨g, 5, none⟩ (a5)).setCell ⟨g, 6, none⟩ (a6)).setCell ⟨g, 7, none⟩ (a7)) none :=
  gr_row (gr_set (gr_set (gr_set (gr_set (gr_set (gr_set (gr_set (gr_set (gr_none h _) _) _) _) _) _) _) _) _) hg
/-- Two results that stand in variables. -/
theorem ret_two {fn : Func} {p u : Tmp} {A B : TypeId} (h : fn.results = #[.cell p A, .cell u B]) {R : Ending → World → Prop} {a : Act} {w : World} {g k : Nat} {c e : Array Value}
    (hp : a.tmps.getD p undef = .pointer (some ⟨g, 0, none⟩)) (hk : a.tmps.getD u undef = .pointer (some ⟨k, 0, none⟩)) (hd : a.defers = [])
    (la : (loadVar A ⟨g, 0, none⟩).run Tryd.prog w = .ok (.agg c) w) (lb : (loadVar B ⟨k, 0, none⟩).run Tryd.prog w = .ok (.agg e) w)
    (hQ : R (.returned (.tuple #[.agg c, .agg e])) w) : bodyPost Tryd.prog fn R .ret a w := by
  refine bodyPost_ret (v := .tuple #[.agg c, .agg e]) ?_ hd hQ
  have hp' : a.tmps[p]?.getD undef = .pointer (some ⟨g, 0, none⟩) := by simpa using hp
  have hk' : a.tmps[u]?.getD undef = .pointer (some ⟨k, 0, none⟩) := by simpa using hk
  simp [results, h, hp', hk', asAddr, la, lb]
set_option maxHeartbeats 1000000 in
theorem all_c (p : Nat) (s : St) (w : World) (hR : RAt w p s) :
    Calls Tryd.prog 24 #[.pointer (some ⟨p, 0, none⟩)] w fun e w' => e = .returned (.tuple #[.agg #[.bool (isS s 0), .bool (isS s 1), .bool (isS s 2), .bool (isS s 3), .bool (isS s 4), .bool (isS s 5), .bool (isS s 6), .bool (isS s 7)], .agg #[.int .u64 (atS s 0), .int .u64 (atS s 1), .int .u64 (atS s 2), .int .u64 (atS s 3), .int .u64 (atS s 4), .int .u64 (atS s 5), .int .u64 (atS s 6), .int .u64 (atS s 7)]]) ∧ w.grownBy w' none := by
  have hF := Fill.start w p s hR
  have HF := Lib.hid hF
  clear hF
  go_enter Tryd.func24, Tryd.ntmps24
  go_wp2_with fail
  have hF := HF.out
  clear HF
  generalize (((w.alloc (.cells #[.bool false, .bool false, .bool false, .bool false, .bool false, .bool false, .bool false, .bool false] 32)).alloc (.cells #[.int .u64 0, .int .u64 0, .int .u64 0, .int .u64 0, .int .u64 0, .int .u64 0, .int .u64 0, .int .u64 0] 33)).alloc (.cells #[.bool false, .bool false, .bool false, .bool false, .bool false, .bool false, .bool false, .bool false] 32)).alloc (.cells #[.int .u64 0, .int .u64 0, .int .u64 0, .int .u64 0, .int .u64 0, .int .u64 0, .int .u64 0, .int .u64 0] 33) = V0 at *
  generalize hq : w.heap.size = q at *
  clear hq
  go_loopw [6] (fun i wr => ∃ (k : Nat) (f : Nat → Bool) (g : Nat → Int), k ≤ 8 ∧ i = .int .i64 k ∧ Fill w q p s k wr f g) (fun i _ => 8 - (intOf i).toNat)
  case atStart => exact ⟨0, _, _, by omega, rfl, hF⟩
  case round =>
    clear hF
    obtain ⟨k, f, g, hk, rfl, hF⟩ := hrel
    by_cases hk8 : k < 8
    · have HH := Has_c p s k (by omega) wr hF.res
      rw [if_pos ((isH_iff k).2 (by omega)), (isH_iff k).2 (by omega), Int.toNat_natCast, Bool.true_and] at HH
      go_wp2_with fail
      refine HH.mono ?_
      rintro e ws ⟨rfl, hG⟩
      have hF2 := hF.keep hG
      have c2 := (hF2.r2.cell k).trans (bC_get _ k hk8)
      have c3 := (hF2.r3.cell k).trans (iC_get _ k hk8)
      have f2 := hF2.r2.free k
      have f3 := hF2.r3.free k
      have HN := Lib.hid (hF2.next hk8)
      clear hF hG HH
      go_wp2_with fail
      go_roundw
      case rel => exact ⟨k + 1, _, _, by omega, by go_num, HN.out⟩
      case measure => simp [intOf]; omega
    · obtain rfl : k = 8 := by omega
      have e2 := hF.r2
      have e3 := hF.r3
      rw [bC_cong fun j hj => (hF.eq j hj).1] at e2
      rw [iC_cong fun j hj => (hF.eq j hj).2] at e3
      have x0 := e2.cell 0
      have x1 := e2.cell 1
      have x2 := e2.cell 2
      have x3 := e2.cell 3
      have x4 := e2.cell 4
      have x5 := e2.cell 5
      have x6 := e2.cell 6
      have x7 := e2.cell 7
      have y0 := e3.cell 0
      have y1 := e3.cell 1
      have y2 := e3.cell 2
      have y3 := e3.cell 3
      have y4 := e3.cell 4
      have y5 := e3.cell 5
      have y6 := e3.cell 6
      have y7 := e3.cell 7
      have z0 := hF.r0.cell 0
      have z1 := hF.r0.cell 1
      have z2 := hF.r0.cell 2
      have z3 := hF.r0.cell 3
      have z4 := hF.r0.cell 4
      have z5 := hF.r0.cell 5
      have z6 := hF.r0.cell 6
      have z7 := hF.r0.cell 7
      have u0 := hF.r1.cell 0
      have u1 := hF.r1.cell 1
      have u2 := hF.r1.cell 2
      have u3 := hF.r1.cell 3
      have u4 := hF.r1.cell 4
      have u5 := hF.r1.cell 5
      have u6 := hF.r1.cell 6
      have u7 := hF.r1.cell 7
      have fz0 := hF.r0.free 0
      have fz1 := hF.r0.free 1
      have fz2 := hF.r0.free 2
      have fz3 := hF.r0.free 3
      have fz4 := hF.r0.free 4
      have fz5 := hF.r0.free 5
      have fz6 := hF.r0.free 6
      have fz7 := hF.r0.free 7
      have fu0 := hF.r1.free 0
      have fu1 := hF.r1.free 1
      have fu2 := hF.r1.free 2
      have fu3 := hF.r1.free 3
      have fu4 := hF.r1.free 4
      have fu5 := hF.r1.free 5
      have fu6 := hF.r1.free 6
      have fu7 := hF.r1.free 7
      simp only [bC, iC, List.getElem?_cons_zero, List.getElem?_cons_succ] at x0 x1 x2 x3 x4 x5 x6 x7 y0 y1 y2 y3 y4 y5 y6 y7 z0 z1 z2 z3 z4 z5 z6 z7 u0 u1 u2 u3 u4 u5 u6 u7
      have HR0 := Lib.hid hF.r0
      have HR1 := Lib.hid hF.r1
      have HGR := Lib.hid hF.gr
      have l1 := hF.lt
      have HSZ := Lib.hid hF.sz
      clear e2 e3 hF
      go_wp2_with fail
      go_region
      have HW0 := Lib.hid (oth8 (g := q + 1) (put8 HR0.out rfl (.bool (isS s 0)) (.bool (isS s 1)) (.bool (isS s 2)) (.bool (isS s 3)) (.bool (isS s 4)) (.bool (isS s 5)) (.bool (isS s 6)) (.bool (isS s 7))) (by omega) (.int .u64 (atS s 0)) (.int .u64 (atS s 1)) (.int .u64 (atS s 2)) (.int .u64 (atS s 3)) (.int .u64 (atS s 4)) (.int .u64 (atS s 5)) (.int .u64 (atS s 6)) (.int .u64 (atS s 7)))
      have HW1 := Lib.hid (put8 (oth8 (g := q) HR1.out (by omega) (.bool (isS s 0)) (.bool (isS s 1)) (.bool (isS s 2)) (.bool (isS s 3)) (.bool (isS s 4)) (.bool (isS s 5)) (.bool (isS s 6)) (.bool (isS s 7))) rfl (.int .u64 (atS s 0)) (.int .u64 (atS s 1)) (.int .u64 (atS s 2)) (.int .u64 (atS s 3)) (.int .u64 (atS s 4)) (.int .u64 (atS s 5)) (.int .u64 (atS s 6)) (.int .u64 (atS s 7)))
      have HW2 := Lib.hid (gr8 (g := q + 1) (gr8 (g := q) HGR.out (by rw [HSZ.out]; omega) (.bool (isS s 0)) (.bool (isS s 1)) (.bool (isS s 2)) (.bool (isS s 3)) (.bool (isS s 4)) (.bool (isS s 5)) (.bool (isS s 6)) (.bool (isS s 7))) (by rw [HSZ.out]; omega) (.int .u64 (atS s 0)) (.int .u64 (atS s 1)) (.int .u64 (atS s 2)) (.int .u64 (atS s 3)) (.int .u64 (atS s 4)) (.int .u64 (atS s 5)) (.int .u64 (atS s 6)) (.int .u64 (atS s 7)))
      clear x0 x1 x2 x3 x4 x5 x6 x7 y0 y1 y2 y3 y4 y5 y6 y7 z0 z1 z2 z3 z4 z5 z6 z7 u0 u1 u2 u3 u4 u5 u6 u7 fz0 fz1 fz2 fz3 fz4 fz5 fz6 fz7 fu0 fu1 fu2 fu3 fu4 fu5 fu6 fu7
      generalize ((((((((((((((((wr.setCell ⟨q, 0, none⟩ (.bool (isS s 0))).setCell ⟨q, 1, none⟩ (.bool (isS s 1))).setCell ⟨q, 2, none⟩ (.bool (isS s 2))).setCell ⟨q, 3, none⟩ (.bool (isS s 3))).setCell ⟨q, 4, none⟩ (.bool (isS s 4))).setCell ⟨q, 5, none⟩ (.bool (isS s 5))).setCell ⟨q, 6, none⟩ (.bool (isS s 6))).setCell ⟨q, 7, none⟩ (.bool (isS s 7))).setCell ⟨q + 1, 0, none⟩ (.int .u64 (atS s 0))).setCell ⟨q + 1, 1, none⟩ (.int .u64 (atS s 1))).setCell ⟨q + 1, 2, none⟩ (.int .u64 (atS s 2))).setCell ⟨q + 1, 3, none⟩ (.int .u64 (atS s 3))).setCell ⟨q + 1, 4, none⟩ (.int .u64 (atS s 4))).setCell ⟨q + 1, 5, none⟩ (.int .u64 (atS s 5))).setCell ⟨q + 1, 6, none⟩ (.int .u64 (atS s 6))).setCell ⟨q + 1, 7, none⟩ (.int .u64 (atS s 7))) = W8 at *
      go_wp2_with fail
      exact ret_two rfl rfl rfl rfl (run_loadVar_row _ _ _ _ _ (0, 0) _ HW0.out Tryd.underlying32 rfl (by kernel_rfl)) (run_loadVar_row _ _ _ _ _ (0, 0) _ HW1.out Tryd.underlying33 rfl (by kernel_rfl)) ⟨rfl, gr_drew HW2.out⟩
end Go.Proofs.YtaanmebebapbpaaDoor
