/-
  What the document's own Put (package suzerainref12) leaves: a contract over the translation.
  Conditions: the arguments are numbers of their kinds; the row stands.
-/
import Derived.Test.YtkfmcbhoendocaaTlbRb
import Derived.Deep.RegionHeld3
namespace Go.Proofs.Ytkfmcbhoendocaa
open Go Go.RowKit W M D A C P K
set_option linter.unusedVariables false
set_option linter.unusedSimpArgs false

theorem run_app_none (w : World) (x : Nat) (ty : TypeId) : (Builtin.append_ #[71, 71] ty #[.slice (some ⟨x, 0, none⟩) 0 0, .slice none 0 0]).run Try.prog w = .ok (.slice (some ⟨x, 0, none⟩) 0 0) w := by kernel_rfl
theorem run_app_zero (w : World) (x : Nat) (a : Addr) (c : Nat) (ty : TypeId) : (Builtin.append_ #[71, 71] ty #[.slice (some ⟨x, 0, none⟩) 0 0, .slice (some a) 0 c]).run Try.prog w = .ok (.slice (some ⟨x, 0, none⟩) 0 0) w := by kernel_rfl
theorem flat_one : ∀ (L : List T.Lf), ∀ u ∈ T.flat L, u.oneCell' = true
  | [], u, hu => by cases hu
  | k :: L, u, hu => by
    rw [T.flat, List.mem_append] at hu
    rcases hu with hu | hu
    · simp only [T.cellsT, List.mem_cons, List.not_mem_nil, or_false] at hu
      rcases hu with rfl | rfl | rfl | rfl | rfl <;> rfl
    · exact flat_one L u hu
/-- All leaves appended to an empty slice of its own. -/
theorem app_all {w : World} {v : Value} {L : List T.Lf} (h : Sl w v L) (hl : L.length ≤ 8) {B x : Nat} (hx : Row w x 142 []) (hB : B ≤ x) (ty : TypeId) :
    ∃ u w', (Builtin.append_ #[71, 71] ty #[.slice (some ⟨x, 0, none⟩) 0 0, v]).run Try.prog w = .ok u w' ∧ T.Arr 142 w' B u L ∧ w.grownBy w' (some x) ∧ (∃ g cap, u = .slice (some ⟨g, 0, none⟩) L.length cap ∧ g < w'.heap.size) := by
  have hA : T.Arr 142 w B (.slice (some ⟨x, 0, none⟩) 0 0) [] := T.Laid.arr (L := []) (cap := 0) (cur := []) ⟨hx, rfl, Nat.le_refl _, by decide, rfl⟩ hB
  rcases h with ⟨rfl, rfl⟩ | ⟨g, o, cap, cur, rfl, h2, h3, h4, h5, h6⟩
  · exact ⟨_, w, run_app_none w x ty, hA, gr_refl _ _, ⟨x, 0, rfl, hx.lt⟩⟩
  · by_cases h0 : L.length = 0
    · obtain rfl := List.eq_nil_of_length_eq_zero h0
      exact ⟨_, w, run_app_zero w x _ cap ty, hA, gr_refl _ _, ⟨x, 0, rfl, hx.lt⟩⟩
    · obtain ⟨i0, hi0, hz0, hs0, hb0⟩ := info_parts infoR
      have hnews : ∀ j u, (T.flat L)[j]? = some u → w.cell? ((⟨g, o * 5, none⟩ : Addr).add j) = some u := fun j u hj => by
        have hjl : j < L.length * 5 := by have := (List.getElem?_eq_some_iff.1 hj).1; rw [T.flat_length] at this; exact this
        rw [addr_add, h4.cell, ← hj, ← h6, List.getElem?_take_of_lt hjl, List.getElem?_drop]
      have hone : ∀ u ∈ T.flat L, u.oneCell' = true := flat_one L
      obtain ⟨g', cap', w', hr, hown, hgr, hor, hlt⟩ := run_append_lies (P := Try.prog) w 71 ty B 142 i0 _ 5 40 Try.underlying71 hi0 hz0 hs0 hb0 rfl (by decide) (.slice (some ⟨x, 0, none⟩) 0 0) 0 (T.flat []) hA ⟨g, o * 5, none⟩ L.length cap (T.flat L) (T.flat_length L) hnews hone (by omega) (by unfold maxLen; omega) (by omega) (Nat.le_of_lt (Nat.lt_of_le_of_lt hB hx.lt)) _ rfl
      rw [Nat.zero_add] at hr hown
      exact ⟨_, w', hr, hown, hgr, ⟨g', cap', rfl, hlt⟩⟩
/-- The run of an append, told without being run. -/
structure AppRun (P : Program) (t ty : TypeId) (s x v : Value) (w w' : World) : Prop where
  run : (Builtin.append_ #[t, t] ty #[s, x]).run P w = .ok v w'
/-- An append by what its run is, at a step of a region that draws its order. -/
theorem step_append_eq {P : Program} {w V w' : World} {ops : Array Oper} {o : Oper} {a : Act} {K : Act → World → Prop} {Q : Exit → Act → World → Prop} {E : Prop} (y : Value) (hy : a.tmps.getD 24 undef = y) (hgd : o.guard = none) (s x : Operand) (t ty : TypeId)
    (hop : o.op = Op.call { callee := Callee.builtin Builtin.append, args := #[s, x], argTypes := #[t, t] }) (hty : o.type = ty) {sv xv v : Value} (hs : a.eval s = sv) (hx : a.eval x = xv) (hwV : w = V) (hrun : AppRun P t ty sv xv v V w')
    (hK : K (a.put o.dst v) w') : if Region.wanted o (yielded ops a.tmps) = true then Oper.wp P o a w K Q else E := by
  subst hwV hs hx hty
  have hw : Region.wanted o (yielded ops a.tmps) = true := by simp [Region.wanted, hgd]
  rw [if_pos hw]
  unfold Oper.wp
  simp [execOp, hop, resolve, invoke, builtin, hrun.run, Result.andThen]
  exact hK
theorem app_all2 {w : World} {v : Value} {L : List T.Lf} (h : Sl w v L) (hl : L.length ≤ 8) {B x : Nat} (hx : Row w x 142 []) (hB : B ≤ x) (ty : TypeId) :
    ∃ u w', AppRun Try.prog 71 ty (.slice (some ⟨x, 0, none⟩) 0 0) v u w w' ∧ T.Arr 142 w' B u L ∧ w.grownBy w' (some x) ∧ (∃ g cap, u = .slice (some ⟨g, 0, none⟩) L.length cap ∧ g < w'.heap.size) := by
  obtain ⟨u, w', h1, h2⟩ := app_all h hl hx hB ty
  exact ⟨u, w', ⟨h1⟩, h2⟩
theorem fresh2r (w : World) (o : Obj) (t : TypeId) (l : List Value) : Row ((w.alloc o).alloc (.cells l.toArray t)) (w.heap.size + 1) t l := by
  have := Row.fresh (w.alloc o) t l
  rw [show (w.alloc o).heap.size = w.heap.size + 1 from Array.size_push ..] at this
  exact this
theorem news_row {w : World} {y : Nat} {t : TypeId} {l : List Value} (h : Row w y t l) : ∀ j u, l[j]? = some u → w.cell? ((⟨y, 0, none⟩ : Addr).add j) = some u := fun j u hj => by
  rw [addr_add, Nat.zero_add, h.cell]; exact hj
theorem cells_one (k : T.Lf) : ∀ u ∈ T.cellsT k, u.oneCell' = true := by
  intro u hu
  simp only [T.cellsT, List.mem_cons, List.not_mem_nil, or_false] at hu
  rcases hu with rfl | rfl | rfl | rfl | rfl <;> rfl
theorem arr_cap {w : World} {B g cap m : Nat} {L : List T.Lf} (h : T.Arr 142 w B (.slice (some ⟨g, 0, none⟩) m cap) L) : L.length ≤ cap := by
  rcases h.parts with ⟨e, -⟩ | ⟨g', cap', cur, e, hB, hl⟩
  · cases e
  · injection e with e1 e2 e3
    subst e3
    exact hl.le
/-- All but the first. -/
theorem sl_tail {w : World} {B g cap : Nat} {x : T.Lf} {M : List T.Lf} {m : Nat} (h : T.Arr 142 w B (.slice (some ⟨g, 0, none⟩) m cap) (x :: M)) : Sl w (.slice (some ⟨g, 5, none⟩) M.length (cap - 1)) M := by
  rcases h.parts with ⟨e, -⟩ | ⟨g', cap', cur, e, hB, hl⟩
  · cases e
  · injection e with e1 e2 e3
    injection e1 with e1
    injection e1 with e1
    subst e1 e3
    have h1 := hl.le
    rw [List.length_cons] at h1
    refine Or.inr ⟨g, 1, cap - 1, cur, by rw [Nat.one_mul], by omega, by have := hl.cap; omega, hl.row, by rw [hl.len]; congr 1; omega, ?_⟩
    have h2 := hl.tk
    have h3 := congrArg (List.drop 5) h2
    rw [List.drop_take, show (x :: M).length * 5 - 5 = M.length * 5 by rw [List.length_cons]; omega] at h3
    rw [Nat.one_mul, h3]
    rfl
/-- What stands while the leaf is put. -/
def PutS (W0 : World) (b p : Nat) (pte lev : Int) (glob : Bool) (v : Value) (w : World) : Prop := w.cell? ⟨b, 0, none⟩ = some (.int .u64 pte) ∧ w.cell? ⟨b, 1, none⟩ = some (.int .i64 lev) ∧ w.cell? ⟨b, 2, none⟩ = some (.bool glob) ∧ w.cell? ⟨p, 1, none⟩ = some v ∧ W0.grownBy w none
theorem puts_of {W w : World} {b p most : Nat} {pte lev n : Int} {glob : Bool} {v : Value} {L : List T.Lf} (hF : Row W b 52 [.int .u64 pte, .int .i64 lev, .bool glob]) (hQ : QT W p most v n L) (g : W.grownBy w none) : PutS W b p pte lev glob v w :=
  ⟨(hF.grown g (by simp)).cell 0, (hF.grown g (by simp)).cell 1, (hF.grown g (by simp)).cell 2, (hQ.kept g).c1, g⟩
set_option maxRecDepth 100000 in
set_option maxHeartbeats 4000000 in
theorem rPut_tlb (p most : Nat) (v : Value) (n : Int) (L : List T.Lf) (k : T.Lf) (hk : T.Fine k) (w : World) (h : QT w p most v n L) :
    Calls Try.prog 28 #[.pointer (some ⟨p, 0, none⟩), .int .u64 k.va, .int .u64 k.asid, vLeaf k.pte k.lev k.glob] w fun e w' => e = .returned (.tuple #[]) ∧ (∃ v', QT w' p most v' n (T.putT most L k)) ∧ w.grownBy w' (some p) := by
  have HK := Lib.hid hk
  obtain ⟨va, asid, pte, lev, glob⟩ := k
  obtain ⟨h1, h2, h3, h4, h5⟩ := hk
  simp only at h1 h2 h3 h4 h5
  unfold vLeaf
  simp only
  have G0 := gr_alloc (gr_refl w none) (.cells #[.int .u64 pte, .int .i64 lev, .bool glob] 52)
  have hF := Row.fresh w 52 [.int .u64 pte, .int .i64 lev, .bool glob]
  have hQ := h.kept G0
  have hle := h.le
  have hm8 := h.most
  have c0 := hQ.c0
  have c1 := hQ.c1
  have lp := hQ.ptr.lt
  by_cases hm0 : most = 0
  · subst hm0
    have FIN := Lib.hid (show (∃ v', QT (w.alloc (.cells #[.int .u64 pte, .int .i64 lev, .bool glob] 52)) p 0 v' n (T.putT 0 L ⟨va, asid, pte, lev, glob⟩)) ∧ w.grownBy (w.alloc (.cells #[.int .u64 pte, .int .i64 lev, .bool glob] 52)) (some p) from ⟨⟨v, by unfold T.putT; rw [if_pos rfl]; exact hQ⟩, gr_none G0 _⟩)
    clear hQ h G0 hF
    go_enter Try.func28, Try.ntmps28
    go_wp2_with fail
    first | go_end0 | refine bodyPost_ret (results_none rfl _ _ _) rfl ?_
    exact ⟨rfl, FIN.out⟩
  · have hz0 : ((most : Int) == 0) = false := by simp [hm0]
    have HQ := Lib.hid hQ
    have HG := Lib.hid G0
    have HF := Lib.hid hF
    have BS := Lib.hid (show (w.alloc (.cells #[.int .u64 pte, .int .i64 lev, .bool glob] 52)).heap.size = w.heap.size + 1 from Array.size_push ..)
    have HM := Lib.hid hm0
    clear hQ h G0 hF hm0
    go_enter Try.func28, Try.ntmps28
    obtain ⟨b, hb⟩ : ∃ b, w.heap.size = b := ⟨_, rfl⟩
    have HB := Lib.hid hb
    go_upto_region 2 with (fail)
    rw [hb] at HF BS
    clear hb
    generalize w.alloc (.cells #[.int .u64 pte, .int .i64 lev, .bool glob] 52) = W at *
    go_cut [8] from 14 to 25 (fun c wc => ∃ g cap, c = .slice (some ⟨g, 0, none⟩) (L.length + 1) cap ∧ T.Arr 142 wc w.heap.size c (L ++ [⟨va, asid, pte, lev, glob⟩]) ∧ QT wc p most v n L ∧ w.grownBy wc none)
    case first =>
      have hF := HF.out
      have hQ := HQ.out
      have y0 : W.cell? ⟨b, 0, none⟩ = some (.int .u64 pte) := hF.cell 0
      have y1 : W.cell? ⟨b, 1, none⟩ = some (.int .i64 lev) := hF.cell 1
      have y2 : W.cell? ⟨b, 2, none⟩ = some (.bool glob) := hF.cell 2
      have lb := hF.lt
      have APP := Lib.hid (fun (V : World) (hV : W.grownBy V none) (x : Nat) (hx : Row V x 142 []) (hB : W.heap.size ≤ x) => app_all2 (hQ.sl.kept hV) (by omega) hx hB 71)
      obtain ⟨i0, hi0, hz0', hs0, hb0⟩ := info_parts infoR
      have HI := Lib.hid (And.intro hi0 (And.intro hz0' (And.intro hs0 hb0)))
      have hl8 : L.length ≤ 8 := by omega
      obtain ⟨A, cap, rfl, hcap⟩ := hQ.sl.len
      clear hi0 hz0' hs0 hb0 hcap
      have hS0 := puts_of hF hQ (gr_refl W none)
      unfold PutS at hS0
      clear y0 y1 y2 lb c1 c0 lp hF hQ
      go_region_held3 (fun w' => w'.cell? ⟨b, 0, none⟩ = some (.int .u64 pte) ∧ w'.cell? ⟨b, 1, none⟩ = some (.int .i64 lev) ∧ w'.cell? ⟨b, 2, none⟩ = some (.bool glob) ∧ w'.cell? ⟨p, 1, none⟩ = some (.slice A L.length cap) ∧ W.grownBy w' none)
        (first | assumption | (exact puts_of HF.out HQ.out (gr_drew (gr_refl W none))) | (exact puts_of HF.out HQ.out (gr_drew (gr_alloc (gr_refl W none) _))) | (exact puts_of HF.out HQ.out (gr_drew (gr_alloc (gr_alloc (gr_refl W none) _) _))) | (exact puts_of HF.out HQ.out (gr_alloc HA.out.2 _)) | (exact puts_of HF.out HQ.out (gr_drew (gr_alloc HA.out.2 _))))
        (first
        | (obtain ⟨u, w1, hrun, hA1, hg1, g1, cp1, hu, hl1⟩ := APP.out ((W.alloc (.cells #[] 142)).drew) (gr_drew (gr_alloc (gr_refl W none) _)) (W.heap.size) (Row.grown (Row.fresh W 142 []) (gr_drew (gr_refl _ none)) (by simp)) (Nat.le_refl _); subst hu; refine step_append_eq (V := ((W.alloc (.cells #[] 142)).drew)) undef rfl rfl (.tmp 14) (.tmp 18) 71 71 rfl rfl rfl rfl rfl hrun ?_; have GW := gr_row (gr_trans (gr_none (gr_drew (gr_alloc (gr_refl W none) _)) (some (W.heap.size))) hg1) (by omega); have HA := Lib.hid (And.intro hA1 GW); have z1 := GW.size; have hSn : PutS W b p pte lev glob (.slice A L.length cap) w1 := puts_of HF.out HQ.out GW; unfold PutS at hSn; clear hrun hA1 hg1 GW)
        | (obtain ⟨u, w1, hrun, hA1, hg1, g1, cp1, hu, hl1⟩ := APP.out (((W.alloc (.cells #[] 142)).alloc (.cells #[.int .u64 va, .int .u64 asid, .int .u64 pte, .int .i64 lev, .bool glob] 142)).drew) (gr_drew (gr_alloc (gr_alloc (gr_refl W none) _) _)) (W.heap.size) (Row.grown ((Row.fresh W 142 []).alloc (.cells #[.int .u64 va, .int .u64 asid, .int .u64 pte, .int .i64 lev, .bool glob] 142)) (gr_drew (gr_refl _ none)) (by simp)) (Nat.le_refl _); subst hu; refine step_append_eq (V := (((W.alloc (.cells #[] 142)).alloc (.cells #[.int .u64 va, .int .u64 asid, .int .u64 pte, .int .i64 lev, .bool glob] 142)).drew)) (.slice (some ⟨W.heap.size + 1, 0, none⟩) 1 1) rfl rfl (.tmp 14) (.tmp 18) 71 71 rfl rfl rfl rfl rfl hrun ?_; have GW := gr_row (gr_trans (gr_none (gr_drew (gr_alloc (gr_alloc (gr_refl W none) _) _)) (some (W.heap.size))) hg1) (by omega); have HY := Lib.hid (And.intro hA1 (And.intro (Row.grown (Row.grown (fresh2r W (.cells #[] 142) 142 (T.cellsT (⟨va, asid, pte, lev, glob⟩ : T.Lf))) (gr_drew (gr_refl _ none)) (by simp)) hg1 (some_ne (by show W.heap.size + 1 ≠ W.heap.size; omega))) GW)); have z1 := GW.size; have hSn : PutS W b p pte lev glob (.slice A L.length cap) w1 := puts_of HF.out HQ.out GW; unfold PutS at hSn; clear hrun hA1 hg1 GW)
        | (obtain ⟨u, w1, hrun, hA1, hg1, g1, cp1, hu, hl1⟩ := APP.out (((W.alloc (.cells #[.int .u64 va, .int .u64 asid, .int .u64 pte, .int .i64 lev, .bool glob] 142)).alloc (.cells #[] 142)).drew) (gr_drew (gr_alloc (gr_alloc (gr_refl W none) _) _)) (W.heap.size + 1) (Row.grown (fresh2r W (.cells #[.int .u64 va, .int .u64 asid, .int .u64 pte, .int .i64 lev, .bool glob] 142) 142 []) (gr_drew (gr_refl _ none)) (by simp)) (Nat.le_succ _); subst hu; refine step_append_eq (V := (((W.alloc (.cells #[.int .u64 va, .int .u64 asid, .int .u64 pte, .int .i64 lev, .bool glob] 142)).alloc (.cells #[] 142)).drew)) (.slice (some ⟨W.heap.size, 0, none⟩) 1 1) rfl rfl (.tmp 14) (.tmp 18) 71 71 rfl rfl rfl rfl rfl hrun ?_; have GW := gr_row (gr_trans (gr_none (gr_drew (gr_alloc (gr_alloc (gr_refl W none) _) _)) (some (W.heap.size + 1))) hg1) (by omega); have HX := Lib.hid (And.intro hA1 (And.intro (Row.grown (Row.grown ((Row.fresh W 142 (T.cellsT (⟨va, asid, pte, lev, glob⟩ : T.Lf))).alloc (.cells #[] 142)) (gr_drew (gr_refl _ none)) (by simp)) hg1 (some_ne (by show W.heap.size ≠ W.heap.size + 1; omega))) GW)); have z1 := GW.size; have hSn : PutS W b p pte lev glob (.slice A L.length cap) w1 := puts_of HF.out HQ.out GW; unfold PutS at hSn; clear hrun hA1 hg1 GW)
        | (refine step_append_lies _ rfl (.tmp 19) (.tmp 24) 71 rfl W.heap.size 142 i0 _ 5 40 Try.underlying71 HI.out.1 HI.out.2.1 HI.out.2.2.1 HI.out.2.2.2 rfl (by decide) (.slice (some ⟨g1, 0, none⟩) L.length cp1) L.length (T.flat L) (by simp [Act.eval, Act.put]) (T.Arr.kept HA.out.1 (gr_alloc (gr_refl w1 none) (.cells #[.int .u64 va, .int .u64 asid, .int .u64 pte, .int .i64 lev, .bool glob] 142))) ⟨w1.heap.size, 0, none⟩ 1 1 (T.cellsT (⟨va, asid, pte, lev, glob⟩ : T.Lf)) (by simp [Act.eval, Act.put]) (by rfl) (news_row (Row.fresh w1 142 (T.cellsT (⟨va, asid, pte, lev, glob⟩ : T.Lf)))) (cells_one _) (by omega) (by unfold maxLen; omega) (by omega) (Nat.le_trans z1 (by first | exact Nat.le_refl _ | exact (gr_alloc (gr_refl w1 none) _).size)) _ rfl ?_; intro g' cap' w' hown hgr hor hlt; have FIN := Lib.hid (flush_fin (k := (⟨va, asid, pte, lev, glob⟩ : T.Lf)) (M := L) (g := g') (cap := cap') (w' := w') HQ.out HA.out.2 (gr_alloc (gr_refl w1 none) _) HA.out.1 hown hgr); have hSn2 : PutS W b p pte lev glob (.slice A L.length cap) w' := puts_of HF.out HQ.out FIN.out.2.2; unfold PutS at hSn2; clear hown hgr hor hlt)
        | (refine step_append_lies _ rfl (.tmp 19) (.tmp 24) 71 rfl W.heap.size 142 i0 _ 5 40 Try.underlying71 HI.out.1 HI.out.2.1 HI.out.2.2.1 HI.out.2.2.2 rfl (by decide) (.slice (some ⟨g1, 0, none⟩) L.length cp1) L.length (T.flat L) (by simp [Act.eval, Act.put]) (HY.out.1) ⟨W.heap.size + 1, 0, none⟩ 1 1 (T.cellsT (⟨va, asid, pte, lev, glob⟩ : T.Lf)) (by simp [Act.eval, Act.put]) (by rfl) (news_row HY.out.2.1) (cells_one _) (by omega) (by unfold maxLen; omega) (by omega) (Nat.le_trans z1 (by first | exact Nat.le_refl _ | exact (gr_alloc (gr_refl w1 none) _).size)) _ rfl ?_; intro g' cap' w' hown hgr hor hlt; have FIN := Lib.hid (flush_fin (k := (⟨va, asid, pte, lev, glob⟩ : T.Lf)) (M := L) (g := g') (cap := cap') (w' := w') HQ.out HY.out.2.2 (gr_refl w1 none) HY.out.1 hown hgr); have hSn2 : PutS W b p pte lev glob (.slice A L.length cap) w' := puts_of HF.out HQ.out FIN.out.2.2; unfold PutS at hSn2; clear hown hgr hor hlt)
        | (refine step_append_lies _ rfl (.tmp 19) (.tmp 24) 71 rfl W.heap.size 142 i0 _ 5 40 Try.underlying71 HI.out.1 HI.out.2.1 HI.out.2.2.1 HI.out.2.2.2 rfl (by decide) (.slice (some ⟨g1, 0, none⟩) L.length cp1) L.length (T.flat L) (by simp [Act.eval, Act.put]) (HX.out.1) ⟨W.heap.size, 0, none⟩ 1 1 (T.cellsT (⟨va, asid, pte, lev, glob⟩ : T.Lf)) (by simp [Act.eval, Act.put]) (by rfl) (news_row HX.out.2.1) (cells_one _) (by omega) (by unfold maxLen; omega) (by omega) (Nat.le_trans z1 (by first | exact Nat.le_refl _ | exact (gr_alloc (gr_refl w1 none) _).size)) _ rfl ?_; intro g' cap' w' hown hgr hor hlt; have FIN := Lib.hid (flush_fin (k := (⟨va, asid, pte, lev, glob⟩ : T.Lf)) (M := L) (g := g') (cap := cap') (w' := w') HQ.out HX.out.2.2 (gr_refl w1 none) HX.out.1 hown hgr); have hSn2 : PutS W b p pte lev glob (.slice A L.length cap) w' := puts_of HF.out HQ.out FIN.out.2.2; unfold PutS at hSn2; clear hown hgr hor hlt))
      all_goals
        have HC := Lib.hid (And.intro (T.Arr.less FIN.out.1 HG.out.size) (And.intro FIN.out.2.1 (gr_trans HG.out FIN.out.2.2)))
        clear FIN hSn2
        go_wp2_with fail
        go_meet
        case rel => exact ⟨g', cap', rfl, HC.out⟩
    case rest =>
      obtain ⟨g, cap, rfl, hA, hQ, hG⟩ := hcut
      have c0 := hQ.c0
      have c1 := hQ.c1
      have lp := hQ.ptr.lt
      have pf := hQ.ptr.free 1
      have hfine : ∀ x ∈ L ++ [(⟨va, asid, pte, lev, glob⟩ : T.Lf)], T.Fine x := fun x hx => by
        rcases List.mem_append.1 hx with hx | hx
        · exact hQ.fine x hx
        · rw [List.mem_singleton.1 hx]; exact HK.out
      by_cases hfull : L.length = most
      · obtain ⟨x, M, rfl⟩ : ∃ x M, L = x :: M := by
          cases L with
          | nil => exact absurd hfull.symm HM.out
          | cons x M => exact ⟨x, M, rfl⟩
        have hxl : (x :: M).length = M.length + 1 := List.length_cons
        have hml : (M ++ [(⟨va, asid, pte, lev, glob⟩ : T.Lf)]).length = most := by rw [List.length_append]; show M.length + 1 = most; omega
        have hS := sl_tail (M := M ++ [(⟨va, asid, pte, lev, glob⟩ : T.Lf)]) (x := x) hA
        rw [hml] at hS
        have hcp : 1 < cap := by
          have := arr_cap hA
          simp only [List.length_append, List.length_cons, List.length_nil] at this
          omega
        have hcp' : ¬ cap - 1 = 0 := by omega
        have PT := Lib.hid (show T.putT most (x :: M) ⟨va, asid, pte, lev, glob⟩ = M ++ [⟨va, asid, pte, lev, glob⟩] by unfold T.putT; rw [if_neg HM.out, if_pos hfull]; rfl)
        have FIN := Lib.hid (And.intro (QT.put hQ hS (fun y hy => hfine y (by exact List.mem_cons_of_mem _ hy)) (Nat.le_of_eq hml)) (gr_set (i := 1) (gr_none hG (some p)) (.slice (some ⟨g, 5, none⟩) most (cap - 1))))
        clear hA hQ hG hS hfine hml hxl
        go_wp2_with fail
        first | go_end0 | refine bodyPost_ret (results_none rfl _ _ _) rfl ?_
        exact ⟨rfl, ⟨_, by rw [PT.out]; exact FIN.out.1⟩, FIN.out.2⟩
      · have PT := Lib.hid (show T.putT most L ⟨va, asid, pte, lev, glob⟩ = L ++ [⟨va, asid, pte, lev, glob⟩] by unfold T.putT; rw [if_neg HM.out, if_neg hfull])
        have FIN := Lib.hid (And.intro (QT.put hQ (Sl.of_arr hA) hfine (by rw [List.length_append]; show L.length + 1 ≤ most; omega)) (gr_set (i := 1) (gr_none hG (some p)) (.slice (some ⟨g, 0, none⟩) (L.length + 1) cap)))
        have hng : ¬ ((L.length : Int) + 1 > (most : Int)) := by omega
        clear hA hQ hG hfine hfull
        go_wp2_with fail
        first | go_end0 | refine bodyPost_ret (results_none rfl _ _ _) rfl ?_
        exact ⟨rfl, ⟨_, by rw [PT.out]; exact FIN.out.1⟩, FIN.out.2⟩
end Go.Proofs.Ytkfmcbhoendocaa
