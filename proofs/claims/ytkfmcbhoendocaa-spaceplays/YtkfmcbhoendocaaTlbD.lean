/-
  A row of leaves is thinned out (slices.DeleteFunc, Flush): contracts over the program's translation.
  Conditions: the row stands; the arguments are numbers of their kinds.
-/
import Derived.Test.YtkfmcbhoendocaaTlbF
import Derived.Test.YtkfmcbhoendocaaTlbN
namespace Go.Proofs.Ytkfmcbhoendocaa
open Go Go.RowKit W M D A C P K
set_option linter.unusedVariables false

theorem zeroK_T (w : World) : (zeroValue 135).run Try.prog w = .ok (T.vT ⟨0, 0, 0, 0, false⟩) w := by unfold T.vT; kernel_rfl
theorem thin_step {L M : List T.Lf} {q : T.Lf → Bool} {a b : Nat} {x : T.Lf} (hx : L[b]? = some x) (ha : M.take a = (L.take b).filter fun k => !q k) (hb : M.drop b = L.drop b) :
    M[b]? = some x ∧ (q x = true → M.take a = (L.take (b + 1)).filter fun k => !q k) ∧ (q x = false → a ≤ b → b < M.length → (M.set a x).take (a + 1) = (L.take (b + 1)).filter fun k => !q k) ∧ M.drop (b + 1) = L.drop (b + 1) ∧ (a ≤ b → (M.set a x).drop (b + 1) = L.drop (b + 1)) := by
  obtain ⟨hl, he⟩ := List.getElem?_eq_some_iff.1 hx
  have ht : L.take (b + 1) = L.take b ++ [x] := by rw [List.take_succ_eq_append_getElem hl, he]
  have hd : M.drop (b + 1) = L.drop (b + 1) := by rw [← List.drop_drop, ← List.drop_drop, hb]
  refine ⟨?_, fun hq => ?_, fun hq hab hbm => ?_, hd, fun hab => ?_⟩
  · have : (M.drop b)[0]? = (L.drop b)[0]? := by rw [hb]
    simpa [hx] using this
  · rw [ht, List.filter_append, ← ha]
    simp [hq]
  · rw [ht, List.filter_append, ← ha, List.take_succ_eq_append_getElem (by rw [List.length_set]; omega), List.getElem_set_self, List.take_set_of_le (by omega)]
    simp [hq]
  · rw [List.drop_set_of_lt (by omega), hd]
theorem thin_start {L : List T.Lf} {q : T.Lf → Bool} {i : Nat} {x : T.Lf} (hi : idxV L q = i) (hx : L[i]? = some x) : q x = true ∧ L.take i = (L.take (i + 1)).filter fun k => !q k := by
  unfold idxV at hi
  cases h : L.findIdx? q with
  | none => rw [h] at hi; simp only at hi; omega
  | some j =>
    rw [h] at hi
    simp only at hi
    obtain rfl : j = i := by omega
    rw [List.findIdx?_eq_some_iff_getElem] at h
    obtain ⟨hj, h1, h2⟩ := h
    rw [List.getElem?_eq_getElem hj] at hx
    injection hx with hx
    rw [hx] at h1
    refine ⟨h1, ?_⟩
    rw [List.take_succ_eq_append_getElem hj, List.filter_append, hx]
    have : (L.take j).filter (fun k => !q k) = L.take j := by
      rw [List.filter_eq_self]
      intro y hy
      obtain ⟨m, hm, he⟩ := List.mem_iff_getElem.1 hy
      simp only [List.length_take] at hm
      rw [List.getElem_take] at he
      have := h2 m (by omega)
      rw [he] at this
      simpa using this
    rw [this]
    simp [h1]
theorem thin_none {L : List T.Lf} {q : T.Lf → Bool} (hi : idxV L q = -1) : L.filter (fun k => !q k) = L := by
  unfold idxV at hi
  cases h : L.findIdx? q with
  | none => exact T.idx_none h
  | some j => rw [h] at hi; simp only at hi; omega
/-- What is left of a row: its leaves that are not meant, in the same block. -/
def Thin (w : World) (B : Nat) (v : Value) (L : List T.Lf) (q : T.Lf → Bool) (e : Ending) (w' : World) : Prop :=
  ∃ v', e = .returned v' ∧ T.Arr 135 w' B v' (L.filter fun k => !q k) ∧ v'.ownBlock = v.ownBlock ∧ w.grownBy w' v.ownBlock

set_option maxHeartbeats 4000000 in
theorem delete_c (L : List T.Lf) (hf : ∀ k ∈ L, T.Fine k) (hl : L.length ≤ 8) (lo B : Nat) (v f : Value) (q : T.Lf → Bool) (w : World) (hA : T.Arr 135 w B v L) (ht : Tests lo w f q) (hlo : ∀ g, v.ownBlock = some g → g < lo) (hsz : lo ≤ w.heap.size) :
    Calls Try.prog 66 #[v, f] w (Thin w B v L q) := by
  have IX := Lib.hid (index_c L hf hl lo B v f q w hA ht)
  rcases find_idx L q with ⟨hi, -⟩ | ⟨i, x, hi, hx, -⟩
  · rw [hi] at IX
    have hn := thin_none hi
    have HA := Lib.hid hA
    have HN := Lib.hid hn
    clear hi hn hA ht hf hlo
    go_enter Try.func66, Try.ntmps66
    go_wp2_with fail
    refine IX.out.mono ?_
    rintro e w1 ⟨rfl, hG⟩
    have fin : Thin w B v L q (.returned v) w1 := ⟨v, rfl, by rw [HN.out]; exact HA.out.kept hG, rfl, gr_none hG _⟩
    have FIN := Lib.hid fin
    clear fin hG HA HN IX
    go_wp2_with fail
    go_ret
    exact FIN.out
  · rw [hi] at IX
    rcases hA.parts with ⟨rfl, rfl⟩ | ⟨g, cap, cur, rfl, hB, hLd⟩
    · cases hx
    obtain ⟨hq0, hst0⟩ := thin_start hi hx
    have hin : i < L.length := (List.getElem?_eq_some_iff.1 hx).1
    have hg0 : g < lo := hlo g rfl
    have hle : L.length ≤ cap := hLd.le
    obtain ⟨n, hn⟩ : ∃ n, L.length = n := ⟨_, rfl⟩
    rw [hn] at hin hl IX hle ⊢
    have HNN := Lib.hid hn.symm
    have HL := Lib.hid hLd
    have HT := Lib.hid ht
    have HF := Lib.hid hf
    have HS := Lib.hid hst0
    have hcapm : cap ≤ 9223372036854775807 := by have := hLd.cap; unfold maxLen at this; omega
    have hgw := hLd.row.lt
    have hne : (((i : Nat) : Int) == -1) = false := by simp
    clear hA ht hf hLd hst0 hi hn hlo hx
    go_enter Try.func66, Try.ntmps66
    go_wp2_with fail
    refine IX.out.mono ?_
    rintro e w1 ⟨rfl, hG1⟩
    have HG1 := Lib.hid hG1
    clear IX hG1
    go_wp2_with fail
    go_loopw [5, 6] (fun ia ib wr => ∃ (a b : Nat) (M : List T.Lf) (cu : List Value), a < b ∧ b ≤ n ∧ ia = .int .i64 a ∧ ib = .int .i64 b ∧ T.Laid 135 wr g cap cu M ∧ M.length = n ∧ (M.take a = (L.take b).filter fun k => !q k) ∧ M.drop b = L.drop b ∧ w.grownBy wr (some g)) (fun _ ib _ => n - (intOf ib).toNat)
    case atStart => exact ⟨i, i + 1, L, cur, by omega, by omega, rfl, by go_num, HL.out.keep HG1.out (by simp), HNN.out.symm, HS.out, rfl, gr_none HG1.out _⟩
    case round =>
      obtain ⟨a, b, M, cu, hab, hbn, rfl, rfl, hLd, hMn, hta, hdb, hG⟩ := hrel
      by_cases hlt : b < n
      · obtain ⟨x, hx⟩ : ∃ x, L[b]? = some x := ⟨L[b]'(by have := HNN.out; omega), List.getElem?_eq_getElem (by have := HNN.out; omega)⟩
        obtain ⟨hMx, s1, s2, s3, s4⟩ := thin_step (q := q) hx hta hdb
        have hmem : x ∈ L := List.mem_of_getElem? hx
        obtain ⟨c0, c1, c2, c3, c4⟩ := hLd.cells hMx
        obtain ⟨fn, cp, rfl, hcf, hc⟩ := HT.out.grown hG (fun g' e => by injection e with e; omega)
        unfold POpens at hcf
        have hgr := hLd.row.lt
        have hszr : lo ≤ wr.heap.size := by have := hG.size; omega
        have HC := Lib.hid (hc (wr.alloc (.cells (T.cellsT x).toArray 135)) (fun k h1 h2 => (Below.heap_alloc wr _ k h2)) x (HF.out x hmem))
        have HB := Lib.hid (Row.fresh wr 135 (T.cellsT x))
        have HLW := Lib.hid (hLd.keep (gr_alloc (gr_refl wr none) (.cells (T.cellsT x).toArray 135)) (by simp))
        have HGW := Lib.hid (gr_alloc hG (.cells (T.cellsT x).toArray 135))
        have HST := Lib.hid (And.intro hMn (And.intro hta (And.intro hdb (And.intro s1 (And.intro s2 (And.intro s3 s4))))))
        clear hc hmem hx hG hMx s1 s2 s3 s4 hta hdb hLd hMn
        obtain ⟨va, asid, pte, lev, glob⟩ := x
        unfold T.vT at HC
        unfold T.cellsT at *
        simp only at HC HB HLW HGW c0 c1 c2 c3 c4
        cases hb : q ⟨va, asid, pte, lev, glob⟩ with
        | true =>
          rw [hb] at HC
          have HQ := Lib.hid hb
          clear hb
          go_wp2_with fail
          refine HC.out.mono ?_
          rintro r w' ⟨rfl, hG⟩
          have HLN := Lib.hid (HLW.out.keep hG (by simp))
          have HGN := Lib.hid (gr_trans HGW.out (gr_none hG _))
          clear hG HC c0 c1 c2 c3 c4
          go_wp2_with fail
          go_roundw
          case rel =>
            obtain ⟨t1, t2, t3, t4, t5, t6, t7⟩ := HST.out
            exact ⟨a, b + 1, M, cu, by omega, by omega, rfl, by go_num, HLN.out, t1, t4 HQ.out, t6, HGN.out⟩
          case measure => simp [intOf]; omega
        | false =>
          rw [hb] at HC
          have HQ := Lib.hid hb
          clear hb
          go_wp2_with fail
          refine HC.out.mono ?_
          rintro r w' ⟨rfl, hG⟩
          have hR := HB.out.grown hG (by simp)
          have y0 : w'.cell? ⟨wr.heap.size, 0, none⟩ = some (.int .u64 va) := hR.cell 0
          have y1 : w'.cell? ⟨wr.heap.size, 1, none⟩ = some (.int .u64 asid) := hR.cell 1
          have y2 : w'.cell? ⟨wr.heap.size, 2, none⟩ = some (.int .u64 pte) := hR.cell 2
          have y3 : w'.cell? ⟨wr.heap.size, 3, none⟩ = some (.int .i64 lev) := hR.cell 3
          have y4 : w'.cell? ⟨wr.heap.size, 4, none⟩ = some (.bool glob) := hR.cell 4
          have hLN := HLW.out.keep hG (by simp)
          have haM : a < M.length := by have := HST.out.1; omega
          obtain ⟨z, hz⟩ : ∃ z, M[a]? = some z := ⟨M[a], List.getElem?_eq_getElem haM⟩
          obtain ⟨d0, d1, d2, d3, d4⟩ := hLN.cells hz
          have fz := hLN.row.free
          have HGN := Lib.hid (gr_trans HGW.out (gr_none hG _))
          have HLN := Lib.hid (hLN.put5 haM ⟨va, asid, pte, lev, glob⟩)
          have hgr' := hLN.row.lt
          have hwr := hR.lt
          clear hG HC c0 c1 c2 c3 c4 hR hLN hz haM
          go_wp2_with fail
          go_roundw
          case rel =>
            obtain ⟨t1, t2, t3, t4, t5, t6, t7⟩ := HST.out
            obtain ⟨cu', hL'⟩ := HLN.out
            exact ⟨a + 1, b + 1, M.set a _, cu', by omega, by omega, by go_num, by go_num, hL', by simpa using t1, t5 HQ.out (by omega) (by omega), t7 (by omega), T.gr_put5 HGN.out _ _ _ _ _ _⟩
          case measure => simp [intOf]; omega
      · obtain rfl : b = n := by omega
        have hcu := hLd.len
        obtain ⟨zs, hz, hcl⟩ := T.run_clear_5 (P := Try.prog) wr 115 135 0 _ Try.underlying115 zeroK_T rfl (by unfold T.vT; intro u hu; simp [Value.cells] at hu; rcases hu with rfl | rfl | rfl | rfl | rfl <;> rfl) g (a * 5) (b - a) (cap - a) (by omega)
          (fun j hj => by rw [hLd.row.cell, List.getElem?_eq_getElem (by omega)]; rfl) (fun j hj => hLd.row.free _)
        have fin : Thin w B (.slice (some ⟨g, 0, none⟩) b cap) L q (.returned (.slice (some ⟨g, 0, none⟩) a cap)) (wr.setCells g (a * 5) zs) := by
          obtain ⟨cu', hL'⟩ := hLd.cut (i := a) (by omega) zs (by omega)
          rw [hta, show L.take b = L from List.take_of_length_le (by have := HNN.out; omega)] at hL'
          have hla : (L.filter fun k => !q k).length = a := by
            rw [show L = L.take b from (List.take_of_length_le (by have := HNN.out; omega)).symm, ← hta, List.length_take]; omega
          have := hL'.arr hB
          rw [hla] at this
          exact ⟨_, rfl, this, rfl, T.gr_setCells _ _ _ hG⟩
        have FIN := Lib.hid fin
        clear fin hta hdb hLd hG hMn hcu hz HT HF HL HG1 HS HNN
        go_wp2_with fail
        go_ret
        exact FIN.out
/-- The row behind the pointer is another one now; nothing else has turned but its own blocks. -/
def Turned (w : World) (B p most : Nat) (v : Value) (n' : Int) (L' : List T.Lf) (w' : World) : Prop :=
  ∃ v', HAt w' B p most v' n' L' ∧ (∀ g, v'.ownBlock = some g → v.ownBlock = some g ∨ w.heap.size ≤ g) ∧ T.But p v w w'
theorem flush_fine {L : List T.Lf} (h : ∀ k ∈ L, T.Fine k) (all : Bool) (a : Int) (ev : Bool) (s : Int) : ∀ k ∈ T.flushT L all a ev s, T.Fine k := fun k hk => h k (List.mem_filter.1 hk).1
theorem flush_le {L : List T.Lf} {m : Nat} (h : L.length ≤ m) (all : Bool) (a : Int) (ev : Bool) (s : Int) : (T.flushT L all a ev s).length ≤ m := Nat.le_trans (List.length_filter_le _ _) h

set_option maxHeartbeats 2000000 in
theorem Flush_c (B p most : Nat) (v : Value) (n : Int) (L : List T.Lf) (al ev : Bool) (a s : Int) (ha : B64 a) (hs : B64 s) (w : World) (h : HAt w B p most v n L) :
    Calls Try.prog 18 #[.pointer (some ⟨p, 0, none⟩), .bool al, .int .u64 a, .bool ev, .int .u64 s] w fun e w' => e = .returned (.tuple #[]) ∧ Turned w B p most v n (T.flushT L al a ev s) w' := by
  have hmf : ∀ (fn : Fn) (first cap : Array Value) (w : World), (Instr.makeFunc fn first cap).run Try.prog w = .ok (.func fn first cap) w := fun _ _ _ _ => rfl
  have z1 : (w.alloc (.cells #[.bool al] 4)).heap.size = w.heap.size + 1 := Array.size_push ..
  have z2 : ((w.alloc (.cells #[.bool al] 4)).alloc (.cells #[.int .u64 a] 22)).heap.size = w.heap.size + 1 + 1 := by rw [← z1]; exact Array.size_push ..
  have z3 : (((w.alloc (.cells #[.bool al] 4)).alloc (.cells #[.int .u64 a] 22)).alloc (.cells #[.bool ev] 4)).heap.size = w.heap.size + 1 + 1 + 1 := by rw [← z2]; exact Array.size_push ..
  have r1 := (((Row.fresh w 4 [.bool al]).alloc (.cells #[.int .u64 a] 22)).alloc (.cells #[.bool ev] 4)).alloc (.cells #[.int .u64 s] 22)
  have r2 := ((Row.fresh (w.alloc (.cells #[.bool al] 4)) 22 [.int .u64 a]).alloc (.cells #[.bool ev] 4)).alloc (.cells #[.int .u64 s] 22)
  have r3 := (Row.fresh ((w.alloc (.cells #[.bool al] 4)).alloc (.cells #[.int .u64 a] 22)) 4 [.bool ev]).alloc (.cells #[.int .u64 s] 22)
  have r4 := Row.fresh (((w.alloc (.cells #[.bool al] 4)).alloc (.cells #[.int .u64 a] 22)).alloc (.cells #[.bool ev] 4)) 22 [.int .u64 s]
  have hg := gr_alloc (gr_alloc (gr_alloc (gr_alloc (gr_refl w none) (.cells #[.bool al] 4)) (.cells #[.int .u64 a] 22)) (.cells #[.bool ev] 4)) (.cells #[.int .u64 s] 22)
  rw [z1] at r2
  rw [z2] at r3
  rw [z3] at r4
  have ht : ∀ W, Row W w.heap.size 4 [.bool al] → Row W (w.heap.size + 1) 22 [.int .u64 a] → Row W (w.heap.size + 1 + 1) 4 [.bool ev] → Row W (w.heap.size + 1 + 1 + 1) 22 [.int .u64 s] →
      Tests w.heap.size W (.func (.func 67) #[] #[.pointer (some ⟨w.heap.size, 0, none⟩), .pointer (some ⟨w.heap.size + 1, 0, none⟩), .pointer (some ⟨w.heap.size + 1 + 1, 0, none⟩), .pointer (some ⟨w.heap.size + 1 + 1 + 1, 0, none⟩)]) (T.dropT al a ev s) := fun W q1 q2 q3 q4 =>
    ⟨_, _, rfl, fun _ _ => by kernel_rfl, fun w' hk x hx => flush1_c x hx al ev a s ha hs _ _ _ _ w' ((hk _ (Nat.le_refl _) q1.lt).trans q1) ((hk _ (by omega) q2.lt).trans q2) ((hk _ (by omega) q3.lt).trans q3) ((hk _ (by omega) q4.lt).trans q4)⟩
  have IX := Lib.hid (fun W f hA hT hS => delete_c L h.fine (by have := h.le; have := h.most; omega) w.heap.size B v f (T.dropT al a ev s) W hA hT (fun g hv => (h.arr.lt hv).2) hS)
  have HU := Lib.hid (And.intro (h.kept hg) (And.intro (ht _ r1 r2 r3 r4) hg))
  have HH := Lib.hid h
  have c1 := (h.kept hg).c1
  clear r1 r2 r3 r4 hg ht h z1 z2 z3
  unfold B64 at ha hs
  go_enter Try.func18, Try.ntmps18
  go_wp2_with fail
  have hU := HU.out
  clear HU
  generalize (((w.alloc (.cells #[.bool al] 4)).alloc (.cells #[.int .u64 a] 22)).alloc (.cells #[.bool ev] 4)).alloc (.cells #[.int .u64 s] 22) = U at *
  refine (IX.out U _ hU.1.arr hU.2.1 hU.2.2.size).mono ?_
  rintro e w1 ⟨v', rfl, hA, hO, hG⟩
  have hr := hU.1.ptr.grown hG (hU.1.arr.ne hU.1.ptr (by decide))
  have hst := HH.out.stored (by decide) ((T.But.of_none hU.2.2 p v).trans_same (T.But.of_row hG p)) hr hA (flush_fine HH.out.fine al a ev s) (flush_le HH.out.le al a ev s)
  have fin : Turned w B p most v n (T.flushT L al a ev s) (w1.setCell ⟨p, 1, none⟩ v') := ⟨v', hst.1, fun g hg => .inl (by rw [← hO]; exact hg), hst.2⟩
  have FIN := Lib.hid fin
  have fz := hr.free 1
  have q1 : w1.cell? ⟨p, 1, none⟩ = some v := by rw [hr.cell]; rfl
  have hsh := hA.shape
  clear fin hst hr hU hG IX HH hO hA
  rcases hsh with rfl | ⟨g', n', cap', rfl⟩
  · go_wp2_with fail
    go_end0
    exact ⟨rfl, FIN.out⟩
  · go_wp2_with fail
    go_end0
    exact ⟨rfl, FIN.out⟩
end Go.Proofs.Ytkfmcbhoendocaa
