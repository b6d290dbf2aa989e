/-
  The first leaf goes (slices.Delete); a leaf is put behind the others (Put): contracts over the program's translation.
  Conditions: the row stands; the arguments are numbers of their kinds.
-/
import Derived.Test.YtkfmcbhoendocaaTlbD
import Derived.StillTailTactics
namespace Go.Proofs.Ytkfmcbhoendocaa
open Go Go.RowKit W M D A C P K
set_option linter.unusedVariables false

theorem flat_cons (k : T.Lf) (L : List T.Lf) : T.flat (k :: L) = T.cellsT k ++ T.flat L := rfl
theorem infoK : (Try.prog.info? 135).map (fun i => (i.zero, i.size, i.bytes)) = some (some (.agg #[.int .u64 0, .int .u64 0, .int .u64 0, .int .i64 0, .bool false]), 5, 40) := by kernel_rfl
/-- All leaves but the first are moved to the front. -/
theorem run_move (w : World) (g cap : Nat) (cur : List Value) (x : T.Lf) (M : List T.Lf) (h : T.Laid 135 w g cap cur (x :: M)) (o c : Nat) (ho : M ≠ [] → o = 5) :
    (Builtin.append_ #[115, 115] 115 #[.slice (some ⟨g, 0, none⟩) 0 cap, .slice (some ⟨g, o, none⟩) M.length c]).run Try.prog w = .ok (.slice (some ⟨g, 0, none⟩) M.length cap) (w.setCells g 0 (T.flat M)) := by
  obtain ⟨i, hi, hz, hs, hb⟩ := info_parts infoK
  have hle := h.le
  have hln := h.len
  rw [List.length_cons] at hle
  have := run_append_room_cells (P := Try.prog) w 115 115 135 i Try.underlying115 hi g 0 0 cap ⟨g, o, none⟩ M.length c (T.flat M) (by rw [hs, T.flat_length]) (by
      intro j u hj
      have hM : M ≠ [] := by rintro rfl; simp [T.flat] at hj
      have hjl := (List.getElem?_eq_some_iff.1 hj).1
      rw [T.flat_length] at hjl
      rw [addr_add, ho hM, h.row.cell, ← hj]
      have : (cur.take ((x :: M).length * 5))[5 + j]? = (T.flat M)[j]? := by
        rw [h.tk, flat_cons, List.getElem?_append_right (by show 5 ≤ _; omega)]
        show _[5 + j - 5]? = _
        rw [Nat.add_sub_cancel_left]
      rw [← this, List.getElem?_take_of_lt (by rw [List.length_cons]; omega)]) (T.flat_one M) (by omega) (by
      intro j hj
      rw [T.flat_length] at hj
      rw [h.row.cell, List.getElem?_eq_getElem (by rw [hs]; omega)]; rfl) (fun j hj => h.row.free _)
  simpa using this
theorem wpList_append_eq {P : Program} {w w' : World} {ops : Array Oper} {rest : List Oper} {o : Oper} {a : Act} {Q : Exit → Act → World → Prop} (hg : o.guard = none) (s x : Operand) (t : TypeId)
    (hop : o.op = Op.call { callee := Callee.builtin Builtin.append, args := #[s, x], argTypes := #[t, t] }) {v : Value} (hrun : (Builtin.append_ #[t, t] o.type #[a.eval s, a.eval x]).run P w = .ok v w')
    (hK : wpList P ops Q rest (a.put o.dst v) w') : wpList P ops Q (o :: rest) a w := by
  refine wpList_plain hg fun K hK' => ?_
  unfold Oper.wp
  simp [execOp, hop, resolve, invoke, builtin, hrun, Result.andThen]
  exact hK' _ _ hK
/-- Leaves from the i-th place on are cleared. -/
theorem clear_T (w : World) (g i n c : Nat) (hn : 0 < n) (cur : List Value) (cap : Nat) (hlen : cur.length = cap * 5) (hr : Row w g 135 cur) (hc : i + n ≤ cap) :
    ∃ zs, zs.length = n * 5 ∧ (Builtin.clear_ #[115] 0 #[.slice (some ⟨g, i * 5, none⟩) n c]).run Try.prog w = .ok (.tuple #[]) (w.setCells g (i * 5) zs) :=
  T.run_clear_5 (P := Try.prog) w 115 135 0 _ Try.underlying115 zeroK_T rfl (by unfold T.vT; intro u hu; simp [Value.cells] at hu; rcases hu with rfl | rfl | rfl | rfl | rfl <;> rfl) g (i * 5) n c hn
    (fun j hj => by rw [hr.cell, List.getElem?_eq_getElem (by omega)]; rfl) (fun j hj => hr.free _)
set_option maxRecDepth 100000 in
set_option maxHeartbeats 2000000 in
theorem first_c (x : T.Lf) (M : List T.Lf) (hl : M.length ≤ 7) (g cap : Nat) (cur : List Value) (w : World) (h : T.Laid 135 w g cap cur (x :: M)) :
    Calls Try.prog 71 #[.slice (some ⟨g, 0, none⟩) (M.length + 1) cap, .int .i64 0, .int .i64 1] w fun e w' => e = .returned (.slice (some ⟨g, 0, none⟩) M.length cap) ∧ (∃ c', T.Laid 135 w' g cap c' M) ∧ w.grownBy w' (some g) := by
  have hle := h.le
  rw [List.length_cons] at hle
  have hcapm : cap ≤ 9223372036854775807 := by have := h.cap; unfold maxLen at this; omega
  have h' : T.Laid 135 w.drew g cap cur (x :: M) := ⟨h.row, h.len, h.le, h.cap, h.tk⟩
  have HM := Lib.hid (fun o c ho => run_move w.drew g cap cur x M h' o c ho)
  have F1 := Lib.hid (show ∃ c', T.Laid 135 (w.drew.setCells g 0 (T.flat M)) g cap c' M by
    obtain ⟨c', hL⟩ := h'.splice (i := 0) (by omega) M (by omega)
    rw [Nat.zero_mul, List.take_zero, List.nil_append] at hL
    exact ⟨c', hL⟩)
  have G1 := Lib.hid (show w.grownBy (w.drew.setCells g 0 (T.flat M)) (some g) from T.gr_setCells _ _ _ (gr_drew (gr_refl w (some g))))
  obtain ⟨n, hn⟩ : ∃ n, M.length = n := ⟨_, rfl⟩
  rw [hn] at HM hl hle ⊢
  have HN := Lib.hid hn
  clear h hn h'
  by_cases hc1 : cap = 1
  · subst hc1
    obtain rfl : n = 0 := by omega
    have hM0 : M = [] := List.eq_nil_of_length_eq_zero HN.out
    have HAP := Lib.hid (HM.out 0 0 (fun h => absurd hM0 h))
    clear hle hl hcapm hM0 HM
    go_enter Try.func71, Try.ntmps71
    go_wp2_with fail
    refine wp_region_still_tail 6 (by kernel_rfl) (by kernel_rfl) ?_
    simp only [List.take_succ_cons, List.take_zero, List.drop_succ_cons, List.drop_zero]
    change wpStill Try.prog _ w.drew _ _ _
    repeat still_step
    refine wpStill_nil ?_
    change wpList _ _ _ _ _ (World.drew _)
    obtain ⟨c', hL1⟩ := F1.out
    obtain ⟨z5, hz, hcl⟩ := clear_T (w.drew.setCells g 0 (T.flat M)) g 0 1 1 (by omega) c' 1 (by rw [hL1.len]) hL1.row (by omega)
    rw [Nat.zero_mul] at hcl
    have HL1 := Lib.hid hL1
    clear hL1
    go_wp2_with (at_builtin; refine wpList_append_eq rfl (.tmp 22) (.tmp 25) 115 rfl HAP.out ?_)
    go_ret
    obtain ⟨c2, hL2⟩ := HL1.out.cut (i := 0) (by have := HN.out; omega) z5 (by rw [hz]; omega)
    rw [List.take_of_length_le (by have := HN.out; omega)] at hL2
    exact ⟨rfl, ⟨c2, hL2⟩, T.gr_setCells _ _ _ G1.out⟩
  · have hc2 : 1 < cap := by omega
    have h1n : (1 : Int) ≤ (n : Int) + 1 := by omega
    have HAP := Lib.hid (HM.out 5 (cap - 1) (fun _ => rfl))
    clear HM
    go_enter Try.func71, Try.ntmps71
    go_wp2_with fail
    refine wp_region_still_tail 6 (by kernel_rfl) (by kernel_rfl) ?_
    simp only [List.take_succ_cons, List.take_zero, List.drop_succ_cons, List.drop_zero]
    change wpStill Try.prog _ w.drew _ _ _
    repeat still_step
    refine wpStill_nil ?_
    change wpList _ _ _ _ _ (World.drew _)
    obtain ⟨c', hL1⟩ := F1.out
    obtain ⟨z5, hz, hcl⟩ := clear_T (w.drew.setCells g 0 (T.flat M)) g n 1 (cap - n) (by omega) c' cap (by rw [hL1.len]) hL1.row (by omega)
    have HL1 := Lib.hid hL1
    clear hL1
    go_wp2_with (at_builtin; refine wpList_append_eq rfl (.tmp 22) (.tmp 25) 115 rfl HAP.out ?_)
    go_ret
    obtain ⟨c2, hL2⟩ := HL1.out.cut (i := n) (by have := HN.out; omega) z5 (by rw [hz]; omega)
    rw [List.take_of_length_le (by have := HN.out; omega)] at hL2
    exact ⟨rfl, ⟨c2, hL2⟩, T.gr_setCells _ _ _ G1.out⟩
end Go.Proofs.Ytkfmcbhoendocaa
