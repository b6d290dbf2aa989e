/-
  A leaf is put behind the others (Put): a contract over the program's translation.
  Conditions: the row stands behind its pointer; the arguments are numbers of their kinds.
-/
import Derived.Test.YtkfmcbhoendocaaTlbP
import Derived.Deep.AppendLies
import Derived.Deep.RegionLaw
namespace Go.Proofs.Ytkfmcbhoendocaa
open Go Go.RowKit W M D A C P K
set_option linter.unusedVariables false
set_option linter.unusedSimpArgs false

theorem flat_snoc (L : List T.Lf) (k : T.Lf) : T.flat (L ++ [k]) = T.flat L ++ T.cellsT k := by
  rw [T.flat_append]; congr 1
theorem put_fin {w W W0 w' : World} {B p most : Nat} {v v1 : Value} {n : Int} {L' : List T.Lf} {k : T.Lf} {g cap H : Nat} (hB : T.But p v w W) (hO : v1.ownBlock = v.ownBlock) (h : HAt W B p most v1 n L') (hl : L'.length < most) (hk : T.Fine k)
    (h0 : W.grownBy W0 none) (hH : W0.heap.size = H) (hown : w'.ownsRow B 135 5 (.slice (some ⟨g, 0, none⟩) (L'.length + 1) cap) (L'.length + 1) (T.flat L' ++ T.cellsT k)) (hgr : W0.grownBy w' v1.ownBlock) (hor : v1.ownBlock = some g ∨ g = H) :
    Turned w B p most v n (L' ++ [k]) (w'.setCell ⟨p, 1, none⟩ (.slice (some ⟨g, 0, none⟩) (L'.length + 1) cap)) := by
  have hA : T.Arr 135 w' B (.slice (some ⟨g, 0, none⟩) (L'.length + 1) cap) (L' ++ [k]) := by
    unfold T.Arr
    rw [flat_snoc, List.length_append]
    exact hown
  have hb1 : T.But p v1 W w' := (T.But.of_none h0 p v1).trans_same (T.But.of_row hgr p)
  have hr := hb1.block p h.ptr.lt
  have hrow : Row w' p 122 [.int .i64 most, v1, .int .u64 n] := (h.ptr.grown h0 (by simp)).grown hgr (h.arr.ne h.ptr (by decide))
  have hst := h.stored (by decide) hb1 hrow hA (fun x hx => by
    rcases List.mem_append.1 hx with hx | hx
    · exact h.fine x hx
    · rw [List.mem_singleton.1 hx]; exact hk) (by rw [List.length_append]; show L'.length + 1 ≤ most; omega)
  refine ⟨_, hst.1, fun g' hg' => ?_, hB.trans hst.2 fun g' hg' => .inl (by rw [← hO]; exact hg')⟩
  have e : g = g' := by simpa [Value.ownBlock] using hg'
  subst e
  rcases hor with h1 | h1
  · exact .inl (by rw [← hO]; exact h1)
  · have := hB.size
    have := h0.size
    exact .inr (by omega)

set_option maxRecDepth 100000 in
set_option maxHeartbeats 4000000 in
theorem TPut_c (B p most : Nat) (v : Value) (n : Int) (L : List T.Lf) (k : T.Lf) (hk : T.Fine k) (w : World) (hBw : B ≤ w.heap.size) (h : HAt w B p most v n L) :
    Calls Try.prog 24 #[.pointer (some ⟨p, 0, none⟩), .int .u64 k.va, .int .u64 k.asid, vLeaf k.pte k.lev k.glob] w fun e w' => e = .returned (.tuple #[]) ∧ Turned w B p most v n (T.putT most L k) w' := by
  have hg := gr_alloc (gr_refl w none) (.cells (lLeaf k.pte k.lev k.glob).toArray 52)
  have hF := Row.fresh w 52 (lLeaf k.pte k.lev k.glob)
  have hU := h.kept hg
  have hbU : T.But p v w (w.alloc (.cells (lLeaf k.pte k.lev k.glob).toArray 52)) := T.But.of_none hg p v
  have hle := h.le
  have hm8 := h.most
  have c0 := hU.c0
  have c1 := hU.c1
  have lp := hU.ptr.lt
  obtain ⟨va, asid, pte, lev, glob⟩ := k
  have HK := Lib.hid hk
  obtain ⟨k1, k2, k3, k4, k5⟩ := hk
  simp only at k1 k2 k3 k4 k5
  unfold lLeaf at *
  simp only at *
  unfold vLeaf
  unfold B64 at k1 k2 k3
  have HW := Lib.hid (And.intro hU (And.intro hF hbU))
  clear hg hF hbU h
  by_cases hm0 : most = 0
  · subst hm0
    have fin : Turned w B p 0 v n (T.putT 0 L ⟨va, asid, pte, lev, glob⟩) (w.alloc (.cells #[.int .u64 pte, .int .i64 lev, .bool glob] 52)) :=
      ⟨v, by unfold T.putT; rw [if_pos rfl]; exact hU, fun g hg => .inl hg, HW.out.2.2⟩
    have FIN := Lib.hid fin
    clear fin HW hU
    go_enter Try.func24, Try.ntmps24
    go_wp2_with fail
    first | go_end0 | refine bodyPost_ret (results_none rfl _ _ _) rfl ?_
    exact ⟨rfl, FIN.out⟩
  · rcases hU.arr.parts with ⟨rfl, rfl⟩ | ⟨g, cap, cur, rfl, hB, hLd⟩
    · have hlt : ([] : List T.Lf).length < most := by show 0 < most; omega
      have PT := Lib.hid (show T.putT most [] ⟨va, asid, pte, lev, glob⟩ = [] ++ [⟨va, asid, pte, lev, glob⟩] by unfold T.putT; rw [if_neg hm0, if_neg (by show ¬ 0 = most; omega)])
      have FN := Lib.hid (fun N => And.intro (T.Held.drewN hU N) (And.intro (show Row ((w.alloc (.cells #[.int .u64 pte, .int .i64 lev, .bool glob] 52)).drewN N) w.heap.size 52 [.int .u64 pte, .int .i64 lev, .bool glob] from HW.out.2.1) (T.But.drewN HW.out.2.2 N)))
      obtain ⟨b, hb⟩ : ∃ b, w.heap.size = b := ⟨_, rfl⟩
      rw [hb] at FN
      have hz0 : ((0 : Int) == (most : Int)) = false := by simp; omega
      have HBS := Lib.hid hb
      clear hU HW
      go_enter Try.func24, Try.ntmps24
      go_wp2_with fail
      go_quiet (fail)
      go_wp2_with fail
      obtain ⟨hU, hF, hbU⟩ := FN.out nq
      clear FN c0 c1 lp
      generalize (w.alloc (.cells #[.int .u64 pte, .int .i64 lev, .bool glob] 52)).drewN nq = W at *
      have W0A := Lib.hid (show (W.drew.alloc (.cells #[.int .u64 va, .int .u64 asid, .int .u64 pte, .int .i64 lev, .bool glob] 135)).ownsRow B 135 5 (.slice none 0 0) 0 (T.flat []) from hU.arr.kept (gr_alloc (gr_drew (gr_refl W none)) _))
      have W0N := Lib.hid (show ∀ j u, (T.cellsT ⟨va, asid, pte, lev, glob⟩)[j]? = some u → (W.drew.alloc (.cells #[.int .u64 va, .int .u64 asid, .int .u64 pte, .int .i64 lev, .bool glob] 135)).cell? ((⟨W.heap.size, 0, none⟩ : Addr).add j) = some u from fun j u hj => by
        rw [addr_add, Nat.zero_add]
        exact ((Row.fresh W.drew 135 (T.cellsT ⟨va, asid, pte, lev, glob⟩)).cell j).trans hj)
      have W0B := Lib.hid (show B ≤ (W.drew.alloc (.cells #[.int .u64 va, .int .u64 asid, .int .u64 pte, .int .i64 lev, .bool glob] 135)).heap.size from by
        have := (gr_alloc (gr_drew (gr_refl W none)) (.cells #[.int .u64 va, .int .u64 asid, .int .u64 pte, .int .i64 lev, .bool glob] 135)).size
        have := hU.own
        have := hU.ptr.lt
        omega)
      have TF := Lib.hid (fun g' cap' w' hown hgr hor => put_fin (w := w) (w' := w') (v1 := (.slice none 0 0)) (g := g') (cap := cap') hbU rfl hU (by exact hlt) HK.out (gr_alloc (gr_drew (gr_refl W none)) (.cells #[.int .u64 va, .int .u64 asid, .int .u64 pte, .int .i64 lev, .bool glob] 135)) rfl hown hgr hor)
      have TC := Lib.hid (show ∀ w', (W.drew.alloc (.cells #[.int .u64 va, .int .u64 asid, .int .u64 pte, .int .i64 lev, .bool glob] 135)).grownBy w' ((.slice none 0 0) : Value).ownBlock → w'.cell? ⟨p, 1, none⟩ = some (.slice none 0 0) ∧ w'.frozen? ⟨p, 1, none⟩ = false ∧ p < w'.heap.size from fun w' hgr => by
        have hr := (hU.ptr.grown (gr_alloc (gr_drew (gr_refl W none)) (.cells #[.int .u64 va, .int .u64 asid, .int .u64 pte, .int .i64 lev, .bool glob] 135)) (by simp)).grown hgr (hU.arr.ne hU.ptr (by decide))
        exact ⟨by rw [hr.cell]; rfl, hr.free 1, hr.lt⟩)
      have c1 := hU.c1
      have lp := hU.ptr.lt
      have y0 : W.cell? ⟨b, 0, none⟩ = some (.int .u64 pte) := hF.cell 0
      have y1 : W.cell? ⟨b, 1, none⟩ = some (.int .i64 lev) := hF.cell 1
      have y2 : W.cell? ⟨b, 2, none⟩ = some (.bool glob) := hF.cell 2
      have lb := hF.lt
      obtain ⟨i0, hi0, hz0, hs0, hb0⟩ := info_parts infoK
      have HI := Lib.hid (And.intro hi0 (And.intro hz0 (And.intro hs0 hb0)))
      clear hi0 hz0 hs0 hb0 hU hF hbU
      go_region_law (refine step_append_lies _ rfl (.tmp 35) (.tmp 40) 115 rfl B 135 i0 _ 5 40 Try.underlying115 HI.out.1 HI.out.2.1 HI.out.2.2.1 HI.out.2.2.2 rfl (by decide) (.slice none 0 0) 0 (T.flat []) (by simp [Act.eval, Act.put]) W0A.out ⟨W.heap.size, 0, none⟩ 1 1 (T.cellsT ⟨va, asid, pte, lev, glob⟩) (by simp [Act.eval, Act.put]) rfl W0N.out (by intro u hu; simp [T.cellsT] at hu; rcases hu with rfl | rfl | rfl | rfl | rfl <;> rfl) (by omega) (by unfold maxLen; omega) (by omega) W0B.out _ rfl ?_; intro g' cap' w' hown hgr hor hlt; have FIN := Lib.hid (TF.out g' cap' w' hown hgr hor); obtain ⟨q1, qf, ql⟩ := TC.out w' hgr; clear hown hgr hor y0 y1 y2 lb c1 lp TF TC W0A W0N W0B)
      all_goals first | go_end0 | refine bodyPost_ret (results_none rfl _ _ _) rfl ?_
      all_goals exact ⟨rfl, by have := FIN.out; rw [PT.out]; exact this⟩
    · by_cases hfull : L.length = most
      · obtain ⟨x, M, rfl⟩ : ∃ x M, L = x :: M := by
          cases L with
          | nil => exact absurd hfull (by show ¬ 0 = most; omega)
          | cons x M => exact ⟨x, M, rfl⟩
        rw [List.length_cons] at hfull hle
        have hlt : M.length < most := by omega
        have PT := Lib.hid (show T.putT most (x :: M) ⟨va, asid, pte, lev, glob⟩ = M ++ [⟨va, asid, pte, lev, glob⟩] by unfold T.putT; rw [if_neg hm0, if_pos (by rw [List.length_cons]; exact hfull)]; rfl)
        have FN := Lib.hid (fun N => And.intro (T.Held.drewN hU N) (And.intro (show Row ((w.alloc (.cells #[.int .u64 pte, .int .i64 lev, .bool glob] 52)).drewN N) w.heap.size 52 [.int .u64 pte, .int .i64 lev, .bool glob] from HW.out.2.1) (And.intro (T.But.drewN HW.out.2.2 N) (hLd.drewN N))))
        obtain ⟨b, hb⟩ : ∃ b, w.heap.size = b := ⟨_, rfl⟩
        rw [hb] at FN
        have hz0 : ((M.length : Int) + 1 == (most : Int)) = true := by simp; omega
        clear hU HW hLd hfull
        go_enter Try.func24, Try.ntmps24
        go_wp2_with fail
        go_quiet (fail)
        go_wp2_with fail
        obtain ⟨hU, hF, hbU, hLd⟩ := FN.out nq
        generalize (w.alloc (.cells #[.int .u64 pte, .int .i64 lev, .bool glob] 52)).drewN nq = W at *
        refine (first_c x M (by omega) g cap cur W hLd).mono ?_
        rintro e w1 ⟨rfl, ⟨c2, hL1⟩, hG1⟩
        have hbp : b ≠ p := hF.apart hU.ptr (by decide)
        have hbg : b ≠ g := hF.apart hLd.row (by decide)
        have hr1 := hU.ptr.grown hG1 (hU.arr.ne hU.ptr (by decide))
        have hF1 := hF.grown hG1 (some_ne hbg)
        have hst := hU.stored (by decide) (T.But.of_row (v := .slice (some ⟨g, 0, none⟩) (x :: M).length cap) hG1 p) hr1 (hL1.arr hB) (fun k hk => hU.fine k (List.mem_cons_of_mem _ hk)) (by omega)
        have hbU1 := hbU.trans_same hst.2
        have hU1 := hst.1
        have hF2 := hF1.other (a := ⟨p, 1, none⟩) hbp (.slice (some ⟨g, 0, none⟩) M.length cap)
        have q1 : w1.cell? ⟨p, 1, none⟩ = some (.slice (some ⟨g, 0, none⟩) (x :: M).length cap) := by rw [hr1.cell]; rfl
        have qf := hr1.free 1
        have ql := hr1.lt
        have FN2 := Lib.hid (And.intro hU1 (And.intro hF2 hbU1))
        clear FN c0 c1 lp hU hF hbU hLd hL1 hG1 hst hU1 hF1 hF2 hbU1 hr1
        go_upto_region 4 with (fail)
        obtain ⟨hU, hF, hbU⟩ := FN2.out
        clear FN2 q1 qf ql
        generalize w1.setCell ⟨p, 1, none⟩ (.slice (some ⟨g, 0, none⟩) M.length cap) = W at *
        have W0A := Lib.hid (show (W.drew.alloc (.cells #[.int .u64 va, .int .u64 asid, .int .u64 pte, .int .i64 lev, .bool glob] 135)).ownsRow B 135 5 (.slice (some ⟨g, 0, none⟩) M.length cap) M.length (T.flat M) from hU.arr.kept (gr_alloc (gr_drew (gr_refl W none)) _))
        have W0N := Lib.hid (show ∀ j u, (T.cellsT ⟨va, asid, pte, lev, glob⟩)[j]? = some u → (W.drew.alloc (.cells #[.int .u64 va, .int .u64 asid, .int .u64 pte, .int .i64 lev, .bool glob] 135)).cell? ((⟨W.heap.size, 0, none⟩ : Addr).add j) = some u from fun j u hj => by
          rw [addr_add, Nat.zero_add]
          exact ((Row.fresh W.drew 135 (T.cellsT ⟨va, asid, pte, lev, glob⟩)).cell j).trans hj)
        have W0B := Lib.hid (show B ≤ (W.drew.alloc (.cells #[.int .u64 va, .int .u64 asid, .int .u64 pte, .int .i64 lev, .bool glob] 135)).heap.size from by
          have := (gr_alloc (gr_drew (gr_refl W none)) (.cells #[.int .u64 va, .int .u64 asid, .int .u64 pte, .int .i64 lev, .bool glob] 135)).size
          have := hU.own
          have := hU.ptr.lt
          omega)
        have TF := Lib.hid (fun g' cap' w' hown hgr hor => put_fin (w := w) (w' := w') (v1 := (.slice (some ⟨g, 0, none⟩) M.length cap)) (g := g') (cap := cap') hbU rfl hU (by exact hlt) HK.out (gr_alloc (gr_drew (gr_refl W none)) (.cells #[.int .u64 va, .int .u64 asid, .int .u64 pte, .int .i64 lev, .bool glob] 135)) rfl hown hgr hor)
        have TC := Lib.hid (show ∀ w', (W.drew.alloc (.cells #[.int .u64 va, .int .u64 asid, .int .u64 pte, .int .i64 lev, .bool glob] 135)).grownBy w' ((.slice (some ⟨g, 0, none⟩) M.length cap) : Value).ownBlock → w'.cell? ⟨p, 1, none⟩ = some (.slice (some ⟨g, 0, none⟩) M.length cap) ∧ w'.frozen? ⟨p, 1, none⟩ = false ∧ p < w'.heap.size from fun w' hgr => by
          have hr := (hU.ptr.grown (gr_alloc (gr_drew (gr_refl W none)) (.cells #[.int .u64 va, .int .u64 asid, .int .u64 pte, .int .i64 lev, .bool glob] 135)) (by simp)).grown hgr (hU.arr.ne hU.ptr (by decide))
          exact ⟨by rw [hr.cell]; rfl, hr.free 1, hr.lt⟩)
        have c1 := hU.c1
        have lp := hU.ptr.lt
        have y0 : W.cell? ⟨b, 0, none⟩ = some (.int .u64 pte) := hF.cell 0
        have y1 : W.cell? ⟨b, 1, none⟩ = some (.int .i64 lev) := hF.cell 1
        have y2 : W.cell? ⟨b, 2, none⟩ = some (.bool glob) := hF.cell 2
        have lb := hF.lt
        obtain ⟨i0, hi0, hz0, hs0, hb0⟩ := info_parts infoK
        have HI := Lib.hid (And.intro hi0 (And.intro hz0 (And.intro hs0 hb0)))
        clear hi0 hz0 hs0 hb0 hU hF hbU
        go_region_law (refine step_append_lies _ rfl (.tmp 35) (.tmp 40) 115 rfl B 135 i0 _ 5 40 Try.underlying115 HI.out.1 HI.out.2.1 HI.out.2.2.1 HI.out.2.2.2 rfl (by decide) (.slice (some ⟨g, 0, none⟩) M.length cap) M.length (T.flat M) (by simp [Act.eval, Act.put]) W0A.out ⟨W.heap.size, 0, none⟩ 1 1 (T.cellsT ⟨va, asid, pte, lev, glob⟩) (by simp [Act.eval, Act.put]) rfl W0N.out (by intro u hu; simp [T.cellsT] at hu; rcases hu with rfl | rfl | rfl | rfl | rfl <;> rfl) (by omega) (by unfold maxLen; omega) (by omega) W0B.out _ rfl ?_; intro g' cap' w' hown hgr hor hlt; have FIN := Lib.hid (TF.out g' cap' w' hown hgr hor); obtain ⟨q1, qf, ql⟩ := TC.out w' hgr; clear hown hgr hor y0 y1 y2 lb c1 lp TF TC W0A W0N W0B)
        all_goals first | go_end0 | refine bodyPost_ret (results_none rfl _ _ _) rfl ?_
        all_goals exact ⟨rfl, by have := FIN.out; rw [PT.out]; exact this⟩
      · have hlt : L.length < most := by omega
        have PT := Lib.hid (show T.putT most L ⟨va, asid, pte, lev, glob⟩ = L ++ [⟨va, asid, pte, lev, glob⟩] by unfold T.putT; rw [if_neg hm0, if_neg hfull])
        have FN := Lib.hid (fun N => And.intro (T.Held.drewN hU N) (And.intro (show Row ((w.alloc (.cells #[.int .u64 pte, .int .i64 lev, .bool glob] 52)).drewN N) w.heap.size 52 [.int .u64 pte, .int .i64 lev, .bool glob] from HW.out.2.1) (T.But.drewN HW.out.2.2 N)))
        obtain ⟨b, hb⟩ : ∃ b, w.heap.size = b := ⟨_, rfl⟩
        rw [hb] at FN
        have hz0 : ((L.length : Int) == (most : Int)) = false := by simp; omega
        have HBS := Lib.hid hb
        clear hU HW hLd
        go_enter Try.func24, Try.ntmps24
        go_wp2_with fail
        go_quiet (fail)
        go_wp2_with fail
        obtain ⟨hU, hF, hbU⟩ := FN.out nq
        clear FN c0 c1 lp
        generalize (w.alloc (.cells #[.int .u64 pte, .int .i64 lev, .bool glob] 52)).drewN nq = W at *
        have W0A := Lib.hid (show (W.drew.alloc (.cells #[.int .u64 va, .int .u64 asid, .int .u64 pte, .int .i64 lev, .bool glob] 135)).ownsRow B 135 5 (.slice (some ⟨g, 0, none⟩) L.length cap) L.length (T.flat L) from hU.arr.kept (gr_alloc (gr_drew (gr_refl W none)) _))
        have W0N := Lib.hid (show ∀ j u, (T.cellsT ⟨va, asid, pte, lev, glob⟩)[j]? = some u → (W.drew.alloc (.cells #[.int .u64 va, .int .u64 asid, .int .u64 pte, .int .i64 lev, .bool glob] 135)).cell? ((⟨W.heap.size, 0, none⟩ : Addr).add j) = some u from fun j u hj => by
          rw [addr_add, Nat.zero_add]
          exact ((Row.fresh W.drew 135 (T.cellsT ⟨va, asid, pte, lev, glob⟩)).cell j).trans hj)
        have W0B := Lib.hid (show B ≤ (W.drew.alloc (.cells #[.int .u64 va, .int .u64 asid, .int .u64 pte, .int .i64 lev, .bool glob] 135)).heap.size from by
          have := (gr_alloc (gr_drew (gr_refl W none)) (.cells #[.int .u64 va, .int .u64 asid, .int .u64 pte, .int .i64 lev, .bool glob] 135)).size
          have := hU.own
          have := hU.ptr.lt
          omega)
        have TF := Lib.hid (fun g' cap' w' hown hgr hor => put_fin (w := w) (w' := w') (v1 := (.slice (some ⟨g, 0, none⟩) L.length cap)) (g := g') (cap := cap') hbU rfl hU (by exact hlt) HK.out (gr_alloc (gr_drew (gr_refl W none)) (.cells #[.int .u64 va, .int .u64 asid, .int .u64 pte, .int .i64 lev, .bool glob] 135)) rfl hown hgr hor)
        have TC := Lib.hid (show ∀ w', (W.drew.alloc (.cells #[.int .u64 va, .int .u64 asid, .int .u64 pte, .int .i64 lev, .bool glob] 135)).grownBy w' ((.slice (some ⟨g, 0, none⟩) L.length cap) : Value).ownBlock → w'.cell? ⟨p, 1, none⟩ = some (.slice (some ⟨g, 0, none⟩) L.length cap) ∧ w'.frozen? ⟨p, 1, none⟩ = false ∧ p < w'.heap.size from fun w' hgr => by
          have hr := (hU.ptr.grown (gr_alloc (gr_drew (gr_refl W none)) (.cells #[.int .u64 va, .int .u64 asid, .int .u64 pte, .int .i64 lev, .bool glob] 135)) (by simp)).grown hgr (hU.arr.ne hU.ptr (by decide))
          exact ⟨by rw [hr.cell]; rfl, hr.free 1, hr.lt⟩)
        have c1 := hU.c1
        have lp := hU.ptr.lt
        have y0 : W.cell? ⟨b, 0, none⟩ = some (.int .u64 pte) := hF.cell 0
        have y1 : W.cell? ⟨b, 1, none⟩ = some (.int .i64 lev) := hF.cell 1
        have y2 : W.cell? ⟨b, 2, none⟩ = some (.bool glob) := hF.cell 2
        have lb := hF.lt
        obtain ⟨i0, hi0, hz0, hs0, hb0⟩ := info_parts infoK
        have HI := Lib.hid (And.intro hi0 (And.intro hz0 (And.intro hs0 hb0)))
        clear hi0 hz0 hs0 hb0 hU hF hbU
        go_region_law (refine step_append_lies _ rfl (.tmp 35) (.tmp 40) 115 rfl B 135 i0 _ 5 40 Try.underlying115 HI.out.1 HI.out.2.1 HI.out.2.2.1 HI.out.2.2.2 rfl (by decide) (.slice (some ⟨g, 0, none⟩) L.length cap) L.length (T.flat L) (by simp [Act.eval, Act.put]) W0A.out ⟨W.heap.size, 0, none⟩ 1 1 (T.cellsT ⟨va, asid, pte, lev, glob⟩) (by simp [Act.eval, Act.put]) rfl W0N.out (by intro u hu; simp [T.cellsT] at hu; rcases hu with rfl | rfl | rfl | rfl | rfl <;> rfl) (by omega) (by unfold maxLen; omega) (by omega) W0B.out _ rfl ?_; intro g' cap' w' hown hgr hor hlt; have FIN := Lib.hid (TF.out g' cap' w' hown hgr hor); obtain ⟨q1, qf, ql⟩ := TC.out w' hgr; clear hown hgr hor y0 y1 y2 lb c1 lp TF TC W0A W0N W0B)
        all_goals first | go_end0 | refine bodyPost_ret (results_none rfl _ _ _) rfl ?_
        all_goals exact ⟨rfl, by have := FIN.out; rw [PT.out]; exact this⟩
end Go.Proofs.Ytkfmcbhoendocaa
