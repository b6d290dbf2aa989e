/-
  What the document's own Flush (package suzerainref12) leaves: a contract over the translation.
  Conditions: the arguments are numbers of their kinds; the row stands.
-/
import Derived.Test.YtkfmcbhoendocaaTlbRa
import Derived.Test.YtkfmcbhoendocaaTlbD
import Derived.Deep.AppendLies
import Derived.Deep.RegionLaw
namespace Go.Proofs.Ytkfmcbhoendocaa
open Go Go.RowKit W M D A C P K
set_option linter.unusedVariables false
set_option linter.unusedSimpArgs false

theorem infoR : (Try.prog.info? 142).map (fun i => (i.zero, i.size, i.bytes)) = some (some (.agg #[.int .u64 0, .int .u64 0, .int .u64 0, .int .i64 0, .bool false]), 5, 40) := by kernel_rfl
/-- A slice that owns its leaves shows them. -/
theorem Sl.of_arr {w : World} {B : Nat} {v : Value} {L : List T.Lf} (h : T.Arr 142 w B v L) : Sl w v L := by
  rcases h.parts with ⟨rfl, rfl⟩ | ⟨g, cap, cur, rfl, hB, hl⟩
  · exact Or.inl ⟨rfl, rfl⟩
  · exact Or.inr ⟨g, 0, cap, cur, by rw [Nat.zero_mul], hl.le, hl.cap, hl.row, by rw [Nat.zero_add]; exact hl.len, by rw [Nat.zero_mul, List.drop_zero]; exact hl.tk⟩
theorem flush_next {L : List T.Lf} {j : Nat} {k : T.Lf} (al ev : Bool) (a s : Int) (h : L[j]? = some k) :
    T.flushT (L.take (j + 1)) al a ev s = T.flushT (L.take j) al a ev s ++ (if T.dropT al a ev s k = true then [] else [k]) := by
  have e : L.take (j + 1) = L.take j ++ [k] := by
    rw [List.take_add_one, h]; rfl
  rw [e]
  unfold T.flushT
  rw [List.filter_append]
  congr 1
  cases hd : T.dropT al a ev s k <;> simp [List.filter, hd]
theorem rflat_snoc (L : List T.Lf) (k : T.Lf) : T.flat (L ++ [k]) = T.flat L ++ T.cellsT k := by
  rw [T.flat_append]; congr 1
theorem flush_fin {w wc W0 w' : World} {p most : Nat} {v u : Value} {n : Int} {L M : List T.Lf} {k : T.Lf} {g cap : Nat} (hQ : QT w p most v n L) (hG : w.grownBy wc none) (h0 : wc.grownBy W0 none)
    (hA : T.Arr 142 wc w.heap.size u M)
    (hown : w'.ownsRow w.heap.size 142 5 (.slice (some ⟨g, 0, none⟩) (M.length + 1) cap) (M.length + 1) (T.flat M ++ T.cellsT k)) (hgr : W0.grownBy w' u.ownBlock) :
    T.Arr 142 w' w.heap.size (.slice (some ⟨g, 0, none⟩) (M.length + 1) cap) (M ++ [k]) ∧ QT w' p most v n L ∧ w.grownBy w' none := by
  have hg0 := gr_trans hG h0
  have hg : w.grownBy w' none := by
    rcases hu : u.ownBlock with _ | b
    · rw [hu] at hgr
      exact gr_trans hg0 hgr
    · rw [hu] at hgr
      exact gr_row (gr_trans (gr_none hg0 (some b)) hgr) (hA.lt hu).1
  refine ⟨?_, hQ.kept hg, hg⟩
  unfold T.Arr
  rw [rflat_snoc, List.length_append]
  exact hown
set_option maxRecDepth 100000 in
set_option maxHeartbeats 4000000 in
theorem rFlush_c (p most : Nat) (v : Value) (n : Int) (L : List T.Lf) (al ev : Bool) (a s : Int) (ha : B64 a) (hs : B64 s) (w : World) (h : QT w p most v n L) :
    Calls Try.prog 29 #[.pointer (some ⟨p, 0, none⟩), .bool al, .int .u64 a, .bool ev, .int .u64 s] w fun e w' => e = .returned (.tuple #[]) ∧ (∃ v', QT w' p most v' n (T.flushT L al a ev s)) ∧ w.grownBy w' (some p) := by
  have HQ := Lib.hid h
  have HF := Lib.hid h.fine
  have hl8 : L.length ≤ 8 := Nat.le_trans h.le h.most
  obtain ⟨A, cap, rfl, hcap⟩ := h.sl.len
  clear h
  unfold B64 at hs
  go_enter Try.func29, Try.ntmps29
  go_wp2_with fail
  have G0 := gr_alloc (gr_refl w none) (.cells #[] 142)
  have hA0 : T.Arr 142 (w.alloc (.cells #[] 142)) w.heap.size (.slice (some ⟨w.heap.size, 0, none⟩) 0 0) [] :=
    T.Laid.arr (L := []) (cap := 0) (cur := []) ⟨Row.fresh w 142 [], rfl, Nat.le_refl _, by decide, rfl⟩ (Nat.le_refl _)
  have HI := Lib.hid (And.intro hA0 (And.intro (HQ.out.kept G0) G0))
  clear hA0 G0
  go_loopw [10, 11] (fun l i wr => ∃ (j : Nat), i = .int .i64 j ∧ j ≤ L.length ∧ T.Arr 142 wr w.heap.size l (T.flushT (L.take j) al a ev s) ∧ QT wr p most (.slice A L.length cap) n L ∧ w.grownBy wr none) (fun _ i _ => 8 - (intOf i).toNat)
  case atStart => exact ⟨0, rfl, Nat.zero_le _, HI.out⟩
  case round =>
    clear HI
    obtain ⟨j, rfl, hj, hA, hQ, hG⟩ := hrel
    have c1 := hQ.c1
    have lp := hQ.ptr.lt
    by_cases hlt : j < L.length
    · obtain ⟨g, o, cap', k, hv, hg, hk, hc⟩ := hQ.sl.at_ hlt
      injection hv with hAA _ hcp
      subst hAA hcp
      have hkf := HF.out k (List.mem_of_getElem? hk)
      have CV := Lib.hid (fun W => rcovers_c k hkf a ha W)
      have hs2 := flush_next al ev a s hk
      obtain ⟨va, asid, pte, lev, glob⟩ := k
      have HK := Lib.hid hkf
      obtain ⟨h1, h2, h3, h4, h5⟩ := hkf
      simp only at h1 h2 h3 h4 h5
      unfold T.dropT at hs2
      simp only at hs2
      unfold T.vT at CV
      simp only at CV
      generalize T.covT ⟨va, asid, pte, lev, glob⟩ a = cv at *
      have HS2 := Lib.hid hs2
      obtain ⟨f, hf⟩ : ∃ f, f = o * 5 := ⟨_, rfl⟩
      rw [← hf] at hc c1
      have Hf := Lib.hid hf
      have u0 := hc 0 (by omega)
      have u1 := hc 1 (by omega)
      have u2 := hc 2 (by omega)
      have u3 := hc 3 (by omega)
      have u4 := hc 4 (by omega)
      unfold T.cellsT at u0 u1 u2 u3 u4
      simp only [List.getElem?_cons_zero, List.getElem?_cons_succ, Nat.add_zero] at u0 u1 u2 u3 u4
      have HR := Lib.hid (And.intro hA (And.intro hQ hG))
      clear hc hA hQ hG hs2 hk hf hcap
      go_upto_region 5 with (fail)
      have hA := gr_alloc (gr_refl wr none) (.cells #[.int .u64 va, .int .u64 asid, .int .u64 pte, .int .i64 lev, .bool glob] 142)
      have hT := Row.fresh wr 142 [.int .u64 va, .int .u64 asid, .int .u64 pte, .int .i64 lev, .bool glob]
      replace hT : Row (wr.alloc (.cells #[.int .u64 va, .int .u64 asid, .int .u64 pte, .int .i64 lev, .bool glob] 142)) wr.heap.size 142 [.int .u64 va, .int .u64 asid, .int .u64 pte, .int .i64 lev, .bool glob] := hT
      have H4 := Lib.hid (And.intro (HR.out.1.kept hA) (And.intro (HR.out.2.1.kept hA) (gr_trans HR.out.2.2 hA)))
      have HT := Lib.hid hT
      have TB := Lib.hid (show w.heap.size ≤ wr.heap.size from HR.out.2.2.size)
      clear hA HR u0 u1 u2 u3 u4 hg c1 lp
      generalize wr.alloc (.cells #[.int .u64 va, .int .u64 asid, .int .u64 pte, .int .i64 lev, .bool glob] 142) = V2 at *
      generalize wr.heap.size = tb at *
      have n0 := hT.cell 0
      have n1 := hT.cell 1
      have n2 := hT.cell 2
      have n3 := hT.cell 3
      have n4 := hT.cell 4
      simp only [List.getElem?_cons_zero, List.getElem?_cons_succ] at n0 n1 n2 n3 n4
      clear hT
      go_cut [13] from 32 to 37 (fun c wc => c = .bool (al || cv) ∧ Row wc tb 142 [.int .u64 va, .int .u64 asid, .int .u64 pte, .int .i64 lev, .bool glob] ∧ T.Arr 142 wc w.heap.size u10 (T.flushT (L.take j) al a ev s) ∧ QT wc p most (.slice (some ⟨g, o * 5, none⟩) L.length cap) n L ∧ w.grownBy wc none)
      case first =>
        cases al
        · go_wp2_with fail
          refine (CV.out _).mono ?_
          rintro e w5 ⟨rfl, hG⟩
          go_wp2_with fail
          go_meet
          case rel => exact ⟨by rw [Bool.false_or], HT.out.grown hG (by simp), H4.out.1.kept hG, H4.out.2.1.kept hG, gr_trans H4.out.2.2 hG⟩
        · go_wp2_with fail
          go_meet
          case rel => exact ⟨rfl, HT.out, H4.out.1, H4.out.2.1, H4.out.2.2⟩
      case rest =>
        obtain ⟨rfl, hT, hA5, hQ5, hG5⟩ := hcut
        clear H4 HT CV n0 n1 n2 n3 n4
        have n0 := hT.cell 0
        have n1 := hT.cell 1
        have n2 := hT.cell 2
        have n3 := hT.cell 3
        have n4 := hT.cell 4
        simp only [List.getElem?_cons_zero, List.getElem?_cons_succ] at n0 n1 n2 n3 n4
        have lt := hT.lt
        have H5 := Lib.hid (And.intro hT (And.intro hA5 (And.intro hQ5 hG5)))
        clear hT hA5 hQ5 hG5
        generalize (al || cv) = th at *
        go_upto_region 6 with (fail)
        go_cut [14] from 38 to 50 (fun c w6 => c = .bool (ev || (decide (asid = s) && !glob)) ∧ w6 = wc)
        case first =>
          clear H5
          cases ev
          · cases glob
            · by_cases he : asid = s
              · have d : (asid == s) = true := by simp [he]
                have E := Lib.hid he
                clear he
                go_wp2_with fail
                go_meet
                case rel => exact ⟨by rw [decide_eq_true E.out]; rfl, rfl⟩
              · have d : (asid == s) = false := by simp [he]
                have E := Lib.hid he
                clear he
                go_wp2_with fail
                go_meet
                case rel => exact ⟨by rw [decide_eq_false E.out]; rfl, rfl⟩
            · go_wp2_with fail
              go_meet
              case rel => exact ⟨by rw [Bool.not_true, Bool.and_false]; rfl, rfl⟩
          · go_wp2_with fail
            go_meet
            case rel => exact ⟨rfl, rfl⟩
        case rest =>
          obtain ⟨rfl, rfl⟩ := hcut
          generalize (ev || (decide (asid = s) && !glob)) = mi at *
          by_cases hd : (th && mi) = true
          · obtain ⟨rfl, rfl⟩ : th = true ∧ mi = true := by cases th <;> cases mi <;> simp at hd ⊢
            have e0 := HS2.out
            rw [if_pos (by rfl), List.append_nil] at e0
            have E0 := Lib.hid e0
            clear e0 hd HS2
            go_wp2_with fail
            go_roundw
            case rel => exact ⟨j + 1, by go_num, by omega, by rw [E0.out]; exact H5.out.2.1, H5.out.2.2.1, H5.out.2.2.2⟩
            case measure => simp [intOf]; omega
          · have e0 := HS2.out
            rw [if_neg hd] at e0
            have E0 := Lib.hid e0
            clear e0 HS2
            obtain ⟨M, hM⟩ : ∃ M, T.flushT (L.take j) al a ev s = M := ⟨_, rfl⟩
            rw [hM] at E0
            have hMl : M.length ≤ 8 := by rw [← hM]; exact Nat.le_trans (List.length_filter_le _ _) (Nat.le_trans (List.length_take_le _ _) (by omega))
            have hA5 := H5.out.2.1
            rw [hM] at hA5
            have gA := gr_alloc (gr_refl wc none) (.cells #[.int .u64 va, .int .u64 asid, .int .u64 pte, .int .i64 lev, .bool glob] 142)
            have W0A := Lib.hid (show (wc.alloc (.cells #[.int .u64 va, .int .u64 asid, .int .u64 pte, .int .i64 lev, .bool glob] 142)).ownsRow w.heap.size 142 5 u10 M.length (T.flat M) from hA5.kept gA)
            have W0N := Lib.hid (show ∀ j u, (T.cellsT (⟨va, asid, pte, lev, glob⟩ : T.Lf))[j]? = some u → (wc.alloc (.cells #[.int .u64 va, .int .u64 asid, .int .u64 pte, .int .i64 lev, .bool glob] 142)).cell? ((⟨wc.heap.size, 0, none⟩ : Addr).add j) = some u from fun j u hj => by
              rw [addr_add, Nat.zero_add]
              exact ((Row.fresh wc 142 (T.cellsT (⟨va, asid, pte, lev, glob⟩ : T.Lf))).cell j).trans hj)
            have W0B := Lib.hid (show w.heap.size ≤ (wc.alloc (.cells #[.int .u64 va, .int .u64 asid, .int .u64 pte, .int .i64 lev, .bool glob] 142)).heap.size from Nat.le_trans H5.out.2.2.2.size gA.size)
            have TF := Lib.hid (fun g' cap' w' hown hgr => flush_fin (k := (⟨va, asid, pte, lev, glob⟩ : T.Lf)) (M := M) (g := g') (cap := cap') (w' := w') HQ.out H5.out.2.2.2 gA hA5 hown hgr)
            obtain ⟨i0, hi0, hz0, hs0, hb0⟩ := info_parts infoR
            have HI := Lib.hid (And.intro hi0 (And.intro hz0 (And.intro hs0 hb0)))
            have HM := Lib.hid hM
            have HH := Lib.hid (And.intro hA5 gA)
            clear hi0 hz0 hs0 hb0 hM hA5 gA
            have hds : (th = false ∨ (th = true ∧ mi = false)) := by cases th <;> cases mi <;> simp at hd ⊢
            clear hd
            rcases hds with rfl | ⟨rfl, rfl⟩
            all_goals
              go_wp2_with (at_builtin; refine wpList_append_lies _ rfl (.tmp 57) (.tmp 59) 71 rfl w.heap.size 142 i0 _ 5 40 Try.underlying71 HI.out.1 HI.out.2.1 HI.out.2.2.1 HI.out.2.2.2 rfl (by decide) u10 M.length (T.flat M) rfl W0A.out ⟨wc.heap.size, 0, none⟩ 1 1 (T.cellsT (⟨va, asid, pte, lev, glob⟩ : T.Lf)) rfl (by rfl) W0N.out (by intro u hu; simp only [T.cellsT, List.mem_cons, List.not_mem_nil, or_false] at hu; rcases hu with rfl | rfl | rfl | rfl | rfl <;> rfl) (by omega) (by unfold maxLen; omega) (by omega) W0B.out _ rfl ?_; intro g' cap' w' hown hgr hor hlt; have FIN := Lib.hid (TF.out g' cap' w' hown hgr); clear hown hgr hor hlt n0 n1 n2 n3 n4 lt TF W0A W0N W0B HH)
              go_roundw
              case rel => exact ⟨j + 1, by go_num, by omega, by rw [E0.out]; exact FIN.out⟩
              case measure => simp [intOf]; omega
    · obtain rfl : j = L.length := by omega
      rw [List.take_length] at hA
      have hfine : ∀ k ∈ T.flushT L al a ev s, T.Fine k := fun k hk => HF.out k (List.mem_filter.1 hk).1
      have hle : (T.flushT L al a ev s).length ≤ most := Nat.le_trans (List.length_filter_le _ _) hQ.le
      have pf := hQ.ptr.free
      have fin := fun (u : Value) (hA : T.Arr 142 wr w.heap.size u (T.flushT L al a ev s)) => And.intro (QT.put hQ (Sl.of_arr hA) hfine hle) (gr_set (i := 1) (gr_none hG (some p)) u)
      have FIN := Lib.hid fin
      have HA := Lib.hid hA
      rcases hA.shape with rfl | ⟨g', n', cap', rfl⟩
      all_goals
        clear hA fin hfine hQ hG hj
        go_wp2_with fail
        first | go_end0 | refine bodyPost_ret (results_none rfl _ _ _) rfl ?_
        exact ⟨rfl, ⟨_, (FIN.out _ HA.out).1⟩, (FIN.out _ HA.out).2⟩
end Go.Proofs.Ytkfmcbhoendocaa
