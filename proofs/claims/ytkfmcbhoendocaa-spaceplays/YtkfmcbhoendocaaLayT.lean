/-
  The document's own row of leaves (package suzerainref12) in memory; what a leaf covers; which leaf is found: contracts over the translation.
  What the document's own Flush (package suzerainref12) leaves: a contract over the translation.
  What the document's own Put (package suzerainref12) leaves: a contract over the translation.
  What the document's own To (package suzerainref12) answers, given what its Put leaves: a contract over the translation.
  What stands while TlbPlays goes on: both memories, both rows of leaves, what is done; what each step leaves of it; New and leaf.
  Conditions: each part's own: the arguments are numbers of their kinds; the tables hold what the program's text lays.
-/
import Derived.Test.YtkfmcbhoendocaaTlbF
import Derived.Test.YtkfmcbhoendocaaTlbB
import Derived.Deep.Cut
import Derived.Deep.CutBlock
import Derived.Deep.QuietTactic
import Derived.BigQuiet
import Derived.Test.YtkfmcbhoendocaaTlbD
import Derived.Deep.AppendLies
import Derived.Deep.RegionLaw
import Derived.Deep.RegionHeld3
import Derived.Test.YtkfmcbhoendocaaTlbT
import Derived.Test.YtkfmcbhoendocaaWalkR
import Derived.Test.YtkfmcbhoendocaaPteR2
import Derived.Test.YtkfmcbhoendocaaTlbU
section
namespace Go.Proofs.Ytkfmcbhoendocaa
open Go Go.RowKit W M D A C P K
set_option linter.unusedVariables false
set_option linter.unusedSimpArgs false

/-! ### The row in memory -/
/-- The slice shows the leaves: nil and none, or a part of a row, from element o on. -/
def Sl (w : World) (v : Value) (L : List T.Lf) : Prop :=
  (v = .slice none 0 0 ∧ L = []) ∨ ∃ g o cap cur, v = .slice (some ⟨g, o * 5, none⟩) L.length cap ∧ L.length ≤ cap ∧ cap ≤ maxLen ∧ Row w g 142 cur ∧ cur.length = (o + cap) * 5 ∧ (cur.drop (o * 5)).take (L.length * 5) = T.flat L
/-- The struct behind its pointer. -/
structure QT (w : World) (p most : Nat) (v : Value) (n : Int) (L : List T.Lf) : Prop where
  ptr : Row w p 73 [.int .i64 most, v, .int .u64 n]
  sl : Sl w v L
  fine : ∀ k ∈ L, T.Fine k
  le : L.length ≤ most
  most : most ≤ 8
  num : B64 n
section
variable {w w' : World} {p most : Nat} {v : Value} {n : Int} {L : List T.Lf}
theorem Sl.keep {row : Option Nat} (h : Sl w v L) (hg : w.grownBy w' row) (hn : ∀ g l, row = some g → ¬ Row w g 142 l) : Sl w' v L := by
  rcases h with h | ⟨g, o, cap, cur, h1, h2, h3, h4, h5, h6⟩
  · exact Or.inl h
  · refine Or.inr ⟨g, o, cap, cur, h1, h2, h3, h4.grown hg (fun e => hn g cur e.symm h4), h5, h6⟩
theorem Sl.kept (h : Sl w v L) (hg : w.grownBy w' none) : Sl w' v L := h.keep hg (fun _ _ e => by cases e)
theorem QT.kept (h : QT w p most v n L) (hg : w.grownBy w' none) : QT w' p most v n L := ⟨h.ptr.grown hg (by simp), h.sl.kept hg, h.fine, h.le, h.most, h.num⟩
theorem QT.c0 (h : QT w p most v n L) : w.cell? ⟨p, 0, none⟩ = some (.int .i64 most) := by rw [h.ptr.cell]; rfl
theorem QT.c1 (h : QT w p most v n L) : w.cell? ⟨p, 1, none⟩ = some v := by rw [h.ptr.cell]; rfl
theorem QT.c2 (h : QT w p most v n L) : w.cell? ⟨p, 2, none⟩ = some (.int .u64 n) := by rw [h.ptr.cell]; rfl
/-- The struct is another one now. -/
theorem QT.put {v' : Value} {L' : List T.Lf} (h : QT w p most v n L) (hs : Sl w v' L') (hf : ∀ k ∈ L', T.Fine k) (hl : L'.length ≤ most) : QT (w.setCell ⟨p, 1, none⟩ v') p most v' n L' := by
  refine ⟨h.ptr.put 1 v', hs.keep (gr_set (gr_refl w (some p)) v') (fun g l e hr => ?_), hf, hl, h.most, h.num⟩
  injection e with e
  subst e
  exact (h.ptr.apart hr (by decide)) rfl
theorem QT.miss (h : QT w p most v n L) {x : Int} (hx : B64 x) : QT (w.setCell ⟨p, 2, none⟩ (.int .u64 x)) p most v x L := by
  refine ⟨h.ptr.put 2 (.int .u64 x), h.sl.keep (gr_set (gr_refl w (some p)) _) (fun g l e hr => ?_), h.fine, h.le, h.most, hx⟩
  injection e with e
  subst e
  exact (h.ptr.apart hr (by decide)) rfl
/-- Where an element lies. -/
theorem Sl.at_ (h : Sl w v L) {i : Nat} (hi : i < L.length) : ∃ g o cap k, v = .slice (some ⟨g, o * 5, none⟩) L.length cap ∧ g < w.heap.size ∧ L[i]? = some k ∧ ∀ c, c < 5 → w.cell? ⟨g, o * 5 + i * 5 + c, none⟩ = (T.cellsT k)[c]? := by
  rcases h with ⟨-, rfl⟩ | ⟨g, o, cap, cur, h1, h2, h3, h4, h5, h6⟩
  · exact absurd hi (by simp)
  · refine ⟨g, o, cap, L[i], h1, h4.lt, List.getElem?_eq_getElem hi, fun c hc => ?_⟩
    rw [h4.cell, ← T.flat_get (List.getElem?_eq_getElem hi) hc, ← h6, List.getElem?_take_of_lt (by omega), List.getElem?_drop]
    congr 1
    omega
theorem Sl.shape (h : Sl w v L) : v = .slice none 0 0 ∨ ∃ g o m cap, v = .slice (some ⟨g, o, none⟩) m cap := by
  rcases h with ⟨h, -⟩ | ⟨g, o, cap, cur, h1, -⟩
  · exact Or.inl h
  · exact Or.inr ⟨g, o * 5, _, cap, h1⟩
theorem Sl.len (h : Sl w v L) : ∃ A cap, v = .slice A L.length cap ∧ L.length ≤ cap := by
  rcases h with ⟨h, rfl⟩ | ⟨g, o, cap, cur, h1, h2, -⟩
  · exact ⟨none, 0, h, Nat.le_refl _⟩
  · exact ⟨_, cap, h1, h2⟩
end

/-! ### What a leaf covers -/
def szL (l : Nat) : Nat := 12 + 9 * l
set_option maxHeartbeats 1000000 in
theorem rcovers_c (k : T.Lf) (hk : T.Fine k) (a : Int) (ha : B64 a) (w : World) :
    Calls Try.prog 72 #[T.vT k, .int .u64 a] w fun e w' => e = .returned (.bool (T.covT k a)) ∧ w.grownBy w' none := by
  have HR := Row.fresh w 142 (T.cellsT k)
  have G := Lib.hid (gr_alloc (gr_refl w none) (.cells (T.cellsT k).toArray 142))
  obtain ⟨va, asid, pte, lev, glob⟩ := k
  obtain ⟨h1, h2, h3, h4, h5⟩ := hk
  simp only at h1 h2 h3 h4 h5
  unfold T.covT T.vT
  unfold T.cellsT at HR G
  simp only at HR G ⊢
  unfold B64 at *
  have m0 : (w.alloc (.cells #[.int .u64 va, .int .u64 asid, .int .u64 pte, .int .i64 lev, .bool glob] 142)).cell? ⟨w.heap.size, 0, none⟩ = some (.int .u64 va) := HR.cell 0
  have m3 : (w.alloc (.cells #[.int .u64 va, .int .u64 asid, .int .u64 pte, .int .i64 lev, .bool glob] 142)).cell? ⟨w.heap.size, 3, none⟩ = some (.int .i64 lev) := HR.cell 3
  obtain rfl | rfl | rfl : lev = 0 ∨ lev = 1 ∨ lev = 2 := by omega
  all_goals
    go_enter Try.func72, Try.ntmps72
    go_wp2_with fail
    go_quiet (fail)
    go_wp2_with fail
    go_ret
    exact ⟨tret_boo (by rw [beq_int]; rfl), gr_drewN G.out _⟩

/-! ### Which leaf is found -/
def zF : List Value := [.int .u64 0, .int .i64 0, .bool false]
theorem find_step {L : List T.Lf} {j : Nat} {k : T.Lf} (a s : Int) (h : L[j]? = some k) : T.findT (L.drop j) a s = if T.keyT a s k = true then some k else T.findT (L.drop (j + 1)) a s := by
  have hj := (List.getElem?_eq_some_iff.1 h).1
  rw [List.drop_eq_getElem_cons hj, show L[j] = k from by rw [List.getElem?_eq_getElem hj] at h; injection h]
  unfold T.findT
  rw [List.find?_cons]
  cases T.keyT a s k <;> rfl
set_option maxRecDepth 100000 in
set_option maxHeartbeats 4000000 in
theorem rFind_c (p most : Nat) (v : Value) (n : Int) (L : List T.Lf) (a s : Int) (ha : B64 a) (hs : B64 s) (w : World) (h : QT w p most v n L) :
    Calls Try.prog 26 #[.pointer (some ⟨p, 0, none⟩), .int .u64 a, .int .u64 s] w fun e w' => e = .returned (.tuple #[vGot (T.findT L a s), .bool (T.findT L a s).isSome]) ∧ w.grownBy w' none := by
  have G0 := gr_alloc (gr_refl w none) (.cells #[.int .u64 0, .int .i64 0, .bool false] 52)
  have HQ := Lib.hid (h.kept G0)
  have HZ := Lib.hid (Row.fresh w 52 [.int .u64 0, .int .i64 0, .bool false])
  have HG := Lib.hid G0
  have HF := Lib.hid h.fine
  have hl8 : L.length ≤ 8 := Nat.le_trans h.le h.most
  obtain ⟨A, cap, rfl, hcap⟩ := h.sl.len
  clear h G0
  unfold B64 at hs
  obtain ⟨F, hF⟩ : ∃ F, T.findT L a s = F := ⟨_, rfl⟩
  rw [hF]
  have HFF := Lib.hid hF
  clear hF
  go_enter Try.func26, Try.ntmps26
  obtain ⟨q, hq⟩ : ∃ q, w.heap.size = q := ⟨_, rfl⟩
  have HS := Lib.hid hq
  go_wp2_with fail
  rw [hq] at HZ
  clear hq
  generalize w.alloc (.cells #[.int .u64 0, .int .i64 0, .bool false] 52) = V at *
  go_loopw [8] (fun i wr => ∃ j : Nat, i = .int .i64 j ∧ j ≤ L.length ∧ Row wr q 52 [.int .u64 0, .int .i64 0, .bool false] ∧ QT wr p most (.slice A L.length cap) n L ∧ w.grownBy wr none ∧ T.findT (L.drop j) a s = F) (fun i _ => 8 - (intOf i).toNat)
  case atStart => exact ⟨0, rfl, Nat.zero_le _, HZ.out, HQ.out, HG.out, HFF.out⟩
  case round =>
    clear HZ HQ HG HFF
    obtain ⟨j, rfl, hj, hZ, hQ, hG, hF⟩ := hrel
    have c1 := hQ.c1
    have lp := hQ.ptr.lt
    by_cases hlt : j < L.length
    · obtain ⟨g, o, cap', k, hv, hg, hk, hc⟩ := hQ.sl.at_ hlt
      injection hv with hA _ hcp
      subst hA hcp
      have hkf := HF.out k (List.mem_of_getElem? hk)
      have CV := Lib.hid (fun W => rcovers_c k hkf a ha W)
      have hs2 := find_step a s hk
      rw [hF] at hs2
      unfold T.keyT at hs2
      obtain ⟨va, asid, pte, lev, glob⟩ := k
      obtain ⟨h1, h2, h3, h4, h5⟩ := hkf
      simp only at h1 h2 h3 h4 h5 hs2
      unfold T.vT at CV
      simp only at CV
      have HS2 := Lib.hid hs2
      obtain ⟨f, hf⟩ : ∃ f, f = o * 5 := ⟨_, rfl⟩
      rw [← hf] at hc c1
      have Hf := Lib.hid hf
      have u0 := hc 0 (by omega)
      have u1 := hc 1 (by omega)
      have u2 := hc 2 (by omega)
      have u3 := hc 3 (by omega)
      have u4 := hc 4 (by omega)
      unfold T.cellsT at u0 u1 u2 u3 u4
      simp only [List.getElem?_cons_zero, List.getElem?_cons_succ, Nat.add_zero] at u0 u1 u2 u3 u4
      have HR := Lib.hid (And.intro hZ (And.intro hQ hG))
      clear hc hZ hQ hG hF hs2 hk hf hcap
      go_upto_region 5 with (fail)
      have hA := gr_alloc (gr_refl wr none) (.cells #[.int .u64 va, .int .u64 asid, .int .u64 pte, .int .i64 lev, .bool glob] 142)
      have hT := Row.fresh wr 142 [.int .u64 va, .int .u64 asid, .int .u64 pte, .int .i64 lev, .bool glob]
      replace hT : Row (wr.alloc (.cells #[.int .u64 va, .int .u64 asid, .int .u64 pte, .int .i64 lev, .bool glob] 142)) wr.heap.size 142 [.int .u64 va, .int .u64 asid, .int .u64 pte, .int .i64 lev, .bool glob] := hT
      have H4 := Lib.hid (And.intro (HR.out.1.grown hA (by simp)) (And.intro (HR.out.2.1.kept hA) (gr_trans HR.out.2.2 hA)))
      have HT := Lib.hid hT
      clear hA HR u0 u1 u2 u3 u4 hg c1 lp
      generalize wr.alloc (.cells #[.int .u64 va, .int .u64 asid, .int .u64 pte, .int .i64 lev, .bool glob] 142) = V2 at *
      generalize wr.heap.size = tb at *
      have n0 := hT.cell 0
      have n1 := hT.cell 1
      have n2 := hT.cell 2
      have n3 := hT.cell 3
      have n4 := hT.cell 4
      simp only [List.getElem?_cons_zero, List.getElem?_cons_succ] at n0 n1 n2 n3 n4
      clear hT
      go_wp2_with fail
      refine (CV.out _).mono ?_
      rintro e w5 ⟨rfl, hG⟩
      have hT := HT.out.grown hG (by simp)
      have H5 := Lib.hid (And.intro (H4.out.1.grown hG (by simp)) (And.intro (H4.out.2.1.kept hG) (gr_trans H4.out.2.2 hG)))
      clear hG H4 HT CV n0 n1 n2 n3 n4
      have n0 := hT.cell 0
      have n1 := hT.cell 1
      have n2 := hT.cell 2
      have n3 := hT.cell 3
      have n4 := hT.cell 4
      simp only [List.getElem?_cons_zero, List.getElem?_cons_succ] at n0 n1 n2 n3 n4
      have lt := hT.lt
      have z0 := H5.out.1.cell 0
      have z1 := H5.out.1.cell 1
      have z2 := H5.out.1.cell 2
      simp only [List.getElem?_cons_zero, List.getElem?_cons_succ] at z0 z1 z2
      have zl := H5.out.1.lt
      have zf := H5.out.1.free
      clear hT
      generalize T.covT ⟨va, asid, pte, lev, glob⟩ a = cv at *
      cases cv
      · skip
        have e0 := HS2.out
        simp only [Bool.false_and, Bool.and_false, Bool.true_and, Bool.false_or, Bool.or_false, decide_false, Bool.false_eq_true, if_false] at e0
        have E0 := Lib.hid e0
        clear e0
        go_wp2_with fail
        go_roundw
        case rel => exact ⟨j + 1, by go_num, by omega, H5.out.1, H5.out.2.1, H5.out.2.2, E0.out.symm⟩
        case measure => simp [intOf]; omega
      · cases glob
        · by_cases he : asid = s
          · have d : (asid == s) = true := by simp [he]
            have R7 : Row (((w5.setCell ⟨q, 0, none⟩ (.int .u64 pte)).setCell ⟨q, 1, none⟩ (.int .i64 lev)).setCell ⟨q, 2, none⟩ (.bool false)) q 52 [.int .u64 pte, .int .i64 lev, .bool false] := ((H5.out.1.put 0 (.int .u64 pte)).put 1 (.int .i64 lev)).put 2 (.bool false)
            have G7 : w.grownBy (((w5.setCell ⟨q, 0, none⟩ (.int .u64 pte)).setCell ⟨q, 1, none⟩ (.int .i64 lev)).setCell ⟨q, 2, none⟩ (.bool false)) none := gr_row (gr_set (gr_set (gr_set (gr_none H5.out.2.2 (some q)) _) _) _) (Nat.le_of_eq HS.out)
            go_wp2_with fail
            have e0 := HS2.out
            simp only [he, Bool.true_and, Bool.and_true, Bool.true_or, Bool.or_true, decide_true, if_true] at e0
            exact ret_LB rfl rfl rfl rfl R7 ⟨by rw [e0]; rfl, G7⟩
          · have d : (asid == s) = false := by simp [he]
            have e0 := HS2.out
            simp only [he, Bool.false_and, Bool.and_false, Bool.true_and, Bool.false_or, Bool.or_false, decide_false, Bool.false_eq_true, if_false] at e0
            have E0 := Lib.hid e0
            clear e0
            go_wp2_with fail
            go_roundw
            case rel => exact ⟨j + 1, by go_num, by omega, H5.out.1, H5.out.2.1, H5.out.2.2, E0.out.symm⟩
            case measure => simp [intOf]; omega
        · skip
          have R7 : Row (((w5.setCell ⟨q, 0, none⟩ (.int .u64 pte)).setCell ⟨q, 1, none⟩ (.int .i64 lev)).setCell ⟨q, 2, none⟩ (.bool true)) q 52 [.int .u64 pte, .int .i64 lev, .bool true] := ((H5.out.1.put 0 (.int .u64 pte)).put 1 (.int .i64 lev)).put 2 (.bool true)
          have G7 : w.grownBy (((w5.setCell ⟨q, 0, none⟩ (.int .u64 pte)).setCell ⟨q, 1, none⟩ (.int .i64 lev)).setCell ⟨q, 2, none⟩ (.bool true)) none := gr_row (gr_set (gr_set (gr_set (gr_none H5.out.2.2 (some q)) _) _) _) (Nat.le_of_eq HS.out)
          go_wp2_with fail
          have e0 := HS2.out
          simp only [Bool.true_and, Bool.and_true, Bool.true_or, Bool.or_true, decide_true, if_true] at e0
          exact ret_LB rfl rfl rfl rfl R7 ⟨by rw [e0]; rfl, G7⟩
    · obtain rfl : j = L.length := by omega
      have e0 : F = none := by rw [← hF, List.drop_length]; rfl
      have E0 := Lib.hid e0
      have z0 := hZ.cell 0
      have z1 := hZ.cell 1
      have z2 := hZ.cell 2
      simp only [List.getElem?_cons_zero, List.getElem?_cons_succ] at z0 z1 z2
      have zl := hZ.lt
      have zf := hZ.free
      have R7 : Row (((wr.setCell ⟨q, 0, none⟩ (.int .u64 0)).setCell ⟨q, 1, none⟩ (.int .i64 0)).setCell ⟨q, 2, none⟩ (.bool false)) q 52 [.int .u64 0, .int .i64 0, .bool false] := ((hZ.put 0 (.int .u64 0)).put 1 (.int .i64 0)).put 2 (.bool false)
      have G7 : w.grownBy (((wr.setCell ⟨q, 0, none⟩ (.int .u64 0)).setCell ⟨q, 1, none⟩ (.int .i64 0)).setCell ⟨q, 2, none⟩ (.bool false)) none := gr_row (gr_set (gr_set (gr_set (gr_none hG (some q)) _) _) _) (Nat.le_of_eq HS.out)
      clear hZ hQ hG hF e0
      go_wp2_with fail
      exact ret_LB rfl rfl rfl rfl R7 ⟨by rw [E0.out]; rfl, G7⟩
end Go.Proofs.Ytkfmcbhoendocaa
end

section
namespace Go.Proofs.Ytkfmcbhoendocaa
open Go Go.RowKit W M D A C P K
set_option linter.unusedVariables false
set_option linter.unusedSimpArgs false

theorem infoR : (Try.prog.info? 142).map (fun i => (i.zero, i.size, i.bytes)) = some (some (.agg #[.int .u64 0, .int .u64 0, .int .u64 0, .int .i64 0, .bool false]), 5, 40) := by kernel_rfl
/-- A slice that owns its leaves shows them. -/
theorem Sl.of_arr {w : World} {B : Nat} {v : Value} {L : List T.Lf} (h : T.Arr 142 w B v L) : Sl w v L := by
  rcases h.parts with ⟨rfl, rfl⟩ | ⟨g, cap, cur, rfl, hB, hl⟩
  · exact Or.inl ⟨rfl, rfl⟩
  · exact Or.inr ⟨g, 0, cap, cur, by rw [Nat.zero_mul], hl.le, hl.cap, hl.row, by rw [Nat.zero_add]; exact hl.len, by rw [Nat.zero_mul, List.drop_zero]; exact hl.tk⟩
theorem flush_next {L : List T.Lf} {j : Nat} {k : T.Lf} (al ev : Bool) (a s : Int) (h : L[j]? = some k) :
    T.flushT (L.take (j + 1)) al a ev s = T.flushT (L.take j) al a ev s ++ (if T.dropT al a ev s k = true then [] else [k]) := by
  have e : L.take (j + 1) = L.take j ++ [k] := by
    rw [List.take_add_one, h]; rfl
  rw [e]
  unfold T.flushT
  rw [List.filter_append]
  congr 1
  cases hd : T.dropT al a ev s k <;> simp [List.filter, hd]
theorem rflat_snoc (L : List T.Lf) (k : T.Lf) : T.flat (L ++ [k]) = T.flat L ++ T.cellsT k := by
  rw [T.flat_append]; congr 1
theorem flush_fin {w wc W0 w' : World} {p most : Nat} {v u : Value} {n : Int} {L M : List T.Lf} {k : T.Lf} {g cap : Nat} (hQ : QT w p most v n L) (hG : w.grownBy wc none) (h0 : wc.grownBy W0 none)
    (hA : T.Arr 142 wc w.heap.size u M)
    (hown : w'.ownsRow w.heap.size 142 5 (.slice (some ⟨g, 0, none⟩) (M.length + 1) cap) (M.length + 1) (T.flat M ++ T.cellsT k)) (hgr : W0.grownBy w' u.ownBlock) :
    T.Arr 142 w' w.heap.size (.slice (some ⟨g, 0, none⟩) (M.length + 1) cap) (M ++ [k]) ∧ QT w' p most v n L ∧ w.grownBy w' none := by
  have hg0 := gr_trans hG h0
  have hg : w.grownBy w' none := by
    rcases hu : u.ownBlock with _ | b
    · rw [hu] at hgr
      exact gr_trans hg0 hgr
    · rw [hu] at hgr
      exact gr_row (gr_trans (gr_none hg0 (some b)) hgr) (hA.lt hu).1
  refine ⟨?_, hQ.kept hg, hg⟩
  unfold T.Arr
  rw [rflat_snoc, List.length_append]
  exact hown
set_option maxRecDepth 100000 in
set_option maxHeartbeats 4000000 in
theorem rFlush_c (p most : Nat) (v : Value) (n : Int) (L : List T.Lf) (al ev : Bool) (a s : Int) (ha : B64 a) (hs : B64 s) (w : World) (h : QT w p most v n L) :
    Calls Try.prog 29 #[.pointer (some ⟨p, 0, none⟩), .bool al, .int .u64 a, .bool ev, .int .u64 s] w fun e w' => e = .returned (.tuple #[]) ∧ (∃ v', QT w' p most v' n (T.flushT L al a ev s)) ∧ w.grownBy w' (some p) := by
  have HQ := Lib.hid h
  have HF := Lib.hid h.fine
  have hl8 : L.length ≤ 8 := Nat.le_trans h.le h.most
  obtain ⟨A, cap, rfl, hcap⟩ := h.sl.len
  clear h
  unfold B64 at hs
  go_enter Try.func29, Try.ntmps29
  go_wp2_with fail
  have G0 := gr_alloc (gr_refl w none) (.cells #[] 142)
  have hA0 : T.Arr 142 (w.alloc (.cells #[] 142)) w.heap.size (.slice (some ⟨w.heap.size, 0, none⟩) 0 0) [] :=
    T.Laid.arr (L := []) (cap := 0) (cur := []) ⟨Row.fresh w 142 [], rfl, Nat.le_refl _, by decide, rfl⟩ (Nat.le_refl _)
  have HI := Lib.hid (And.intro hA0 (And.intro (HQ.out.kept G0) G0))
  clear hA0 G0
  go_loopw [10, 11] (fun l i wr => ∃ (j : Nat), i = .int .i64 j ∧ j ≤ L.length ∧ T.Arr 142 wr w.heap.size l (T.flushT (L.take j) al a ev s) ∧ QT wr p most (.slice A L.length cap) n L ∧ w.grownBy wr none) (fun _ i _ => 8 - (intOf i).toNat)
  case atStart => exact ⟨0, rfl, Nat.zero_le _, HI.out⟩
  case round =>
    clear HI
    obtain ⟨j, rfl, hj, hA, hQ, hG⟩ := hrel
    have c1 := hQ.c1
    have lp := hQ.ptr.lt
    by_cases hlt : j < L.length
    · obtain ⟨g, o, cap', k, hv, hg, hk, hc⟩ := hQ.sl.at_ hlt
      injection hv with hAA _ hcp
      subst hAA hcp
      have hkf := HF.out k (List.mem_of_getElem? hk)
      have CV := Lib.hid (fun W => rcovers_c k hkf a ha W)
      have hs2 := flush_next al ev a s hk
      obtain ⟨va, asid, pte, lev, glob⟩ := k
      have HK := Lib.hid hkf
      obtain ⟨h1, h2, h3, h4, h5⟩ := hkf
      simp only at h1 h2 h3 h4 h5
      unfold T.dropT at hs2
      simp only at hs2
      unfold T.vT at CV
      simp only at CV
      generalize T.covT ⟨va, asid, pte, lev, glob⟩ a = cv at *
      have HS2 := Lib.hid hs2
      obtain ⟨f, hf⟩ : ∃ f, f = o * 5 := ⟨_, rfl⟩
      rw [← hf] at hc c1
      have Hf := Lib.hid hf
      have u0 := hc 0 (by omega)
      have u1 := hc 1 (by omega)
      have u2 := hc 2 (by omega)
      have u3 := hc 3 (by omega)
      have u4 := hc 4 (by omega)
      unfold T.cellsT at u0 u1 u2 u3 u4
      simp only [List.getElem?_cons_zero, List.getElem?_cons_succ, Nat.add_zero] at u0 u1 u2 u3 u4
      have HR := Lib.hid (And.intro hA (And.intro hQ hG))
      clear hc hA hQ hG hs2 hk hf hcap
      go_upto_region 5 with (fail)
      have hA := gr_alloc (gr_refl wr none) (.cells #[.int .u64 va, .int .u64 asid, .int .u64 pte, .int .i64 lev, .bool glob] 142)
      have hT := Row.fresh wr 142 [.int .u64 va, .int .u64 asid, .int .u64 pte, .int .i64 lev, .bool glob]
      replace hT : Row (wr.alloc (.cells #[.int .u64 va, .int .u64 asid, .int .u64 pte, .int .i64 lev, .bool glob] 142)) wr.heap.size 142 [.int .u64 va, .int .u64 asid, .int .u64 pte, .int .i64 lev, .bool glob] := hT
      have H4 := Lib.hid (And.intro (HR.out.1.kept hA) (And.intro (HR.out.2.1.kept hA) (gr_trans HR.out.2.2 hA)))
      have HT := Lib.hid hT
      have TB := Lib.hid (show w.heap.size ≤ wr.heap.size from HR.out.2.2.size)
      clear hA HR u0 u1 u2 u3 u4 hg c1 lp
      generalize wr.alloc (.cells #[.int .u64 va, .int .u64 asid, .int .u64 pte, .int .i64 lev, .bool glob] 142) = V2 at *
      generalize wr.heap.size = tb at *
      have n0 := hT.cell 0
      have n1 := hT.cell 1
      have n2 := hT.cell 2
      have n3 := hT.cell 3
      have n4 := hT.cell 4
      simp only [List.getElem?_cons_zero, List.getElem?_cons_succ] at n0 n1 n2 n3 n4
      clear hT
      go_cut [13] from 32 to 37 (fun c wc => c = .bool (al || cv) ∧ Row wc tb 142 [.int .u64 va, .int .u64 asid, .int .u64 pte, .int .i64 lev, .bool glob] ∧ T.Arr 142 wc w.heap.size u10 (T.flushT (L.take j) al a ev s) ∧ QT wc p most (.slice (some ⟨g, o * 5, none⟩) L.length cap) n L ∧ w.grownBy wc none)
      case first =>
        cases al
        · go_wp2_with fail
          refine (CV.out _).mono ?_
          rintro e w5 ⟨rfl, hG⟩
          go_wp2_with fail
          go_meet
          case rel => exact ⟨by rw [Bool.false_or], HT.out.grown hG (by simp), H4.out.1.kept hG, H4.out.2.1.kept hG, gr_trans H4.out.2.2 hG⟩
        · go_wp2_with fail
          go_meet
          case rel => exact ⟨rfl, HT.out, H4.out.1, H4.out.2.1, H4.out.2.2⟩
      case rest =>
        obtain ⟨rfl, hT, hA5, hQ5, hG5⟩ := hcut
        clear H4 HT CV n0 n1 n2 n3 n4
        have n0 := hT.cell 0
        have n1 := hT.cell 1
        have n2 := hT.cell 2
        have n3 := hT.cell 3
        have n4 := hT.cell 4
        simp only [List.getElem?_cons_zero, List.getElem?_cons_succ] at n0 n1 n2 n3 n4
        have lt := hT.lt
        have H5 := Lib.hid (And.intro hT (And.intro hA5 (And.intro hQ5 hG5)))
        clear hT hA5 hQ5 hG5
        generalize (al || cv) = th at *
        go_upto_region 6 with (fail)
        go_cut [14] from 38 to 50 (fun c w6 => c = .bool (ev || (decide (asid = s) && !glob)) ∧ w6 = wc)
        case first =>
          clear H5
          cases ev
          · cases glob
            · by_cases he : asid = s
              · have d : (asid == s) = true := by simp [he]
                have E := Lib.hid he
                clear he
                go_wp2_with fail
                go_meet
                case rel => exact ⟨by rw [decide_eq_true E.out]; rfl, rfl⟩
              · have d : (asid == s) = false := by simp [he]
                have E := Lib.hid he
                clear he
                go_wp2_with fail
                go_meet
                case rel => exact ⟨by rw [decide_eq_false E.out]; rfl, rfl⟩
            · go_wp2_with fail
              go_meet
              case rel => exact ⟨by rw [Bool.not_true, Bool.and_false]; rfl, rfl⟩
          · go_wp2_with fail
            go_meet
            case rel => exact ⟨rfl, rfl⟩
        case rest =>
          obtain ⟨rfl, rfl⟩ := hcut
          generalize (ev || (decide (asid = s) && !glob)) = mi at *
          by_cases hd : (th && mi) = true
          · obtain ⟨rfl, rfl⟩ : th = true ∧ mi = true := by cases th <;> cases mi <;> simp at hd ⊢
            have e0 := HS2.out
            rw [if_pos (by rfl), List.append_nil] at e0
            have E0 := Lib.hid e0
            clear e0 hd HS2
            go_wp2_with fail
            go_roundw
            case rel => exact ⟨j + 1, by go_num, by omega, by rw [E0.out]; exact H5.out.2.1, H5.out.2.2.1, H5.out.2.2.2⟩
            case measure => simp [intOf]; omega
          · have e0 := HS2.out
            rw [if_neg hd] at e0
            have E0 := Lib.hid e0
            clear e0 HS2
            obtain ⟨M, hM⟩ : ∃ M, T.flushT (L.take j) al a ev s = M := ⟨_, rfl⟩
            rw [hM] at E0
            have hMl : M.length ≤ 8 := by rw [← hM]; exact Nat.le_trans (List.length_filter_le _ _) (Nat.le_trans (List.length_take_le _ _) (by omega))
            have hA5 := H5.out.2.1
            rw [hM] at hA5
            have gA := gr_alloc (gr_refl wc none) (.cells #[.int .u64 va, .int .u64 asid, .int .u64 pte, .int .i64 lev, .bool glob] 142)
            have W0A := Lib.hid (show (wc.alloc (.cells #[.int .u64 va, .int .u64 asid, .int .u64 pte, .int .i64 lev, .bool glob] 142)).ownsRow w.heap.size 142 5 u10 M.length (T.flat M) from hA5.kept gA)
            have W0N := Lib.hid (show ∀ j u, (T.cellsT (⟨va, asid, pte, lev, glob⟩ : T.Lf))[j]? = some u → (wc.alloc (.cells #[.int .u64 va, .int .u64 asid, .int .u64 pte, .int .i64 lev, .bool glob] 142)).cell? ((⟨wc.heap.size, 0, none⟩ : Addr).add j) = some u from fun j u hj => by
              rw [addr_add, Nat.zero_add]
              exact ((Row.fresh wc 142 (T.cellsT (⟨va, asid, pte, lev, glob⟩ : T.Lf))).cell j).trans hj)
            have W0B := Lib.hid (show w.heap.size ≤ (wc.alloc (.cells #[.int .u64 va, .int .u64 asid, .int .u64 pte, .int .i64 lev, .bool glob] 142)).heap.size from Nat.le_trans H5.out.2.2.2.size gA.size)
            have TF := Lib.hid (fun g' cap' w' hown hgr => flush_fin (k := (⟨va, asid, pte, lev, glob⟩ : T.Lf)) (M := M) (g := g') (cap := cap') (w' := w') HQ.out H5.out.2.2.2 gA hA5 hown hgr)
            obtain ⟨i0, hi0, hz0, hs0, hb0⟩ := info_parts infoR
            have HI := Lib.hid (And.intro hi0 (And.intro hz0 (And.intro hs0 hb0)))
            have HM := Lib.hid hM
            have HH := Lib.hid (And.intro hA5 gA)
            clear hi0 hz0 hs0 hb0 hM hA5 gA
            have hds : (th = false ∨ (th = true ∧ mi = false)) := by cases th <;> cases mi <;> simp at hd ⊢
            clear hd
            rcases hds with rfl | ⟨rfl, rfl⟩
            all_goals
              go_wp2_with (at_builtin; refine wpList_append_lies _ rfl (.tmp 57) (.tmp 59) 71 rfl w.heap.size 142 i0 _ 5 40 Try.underlying71 HI.out.1 HI.out.2.1 HI.out.2.2.1 HI.out.2.2.2 rfl (by decide) u10 M.length (T.flat M) rfl W0A.out ⟨wc.heap.size, 0, none⟩ 1 1 (T.cellsT (⟨va, asid, pte, lev, glob⟩ : T.Lf)) rfl (by rfl) W0N.out (by intro u hu; simp only [T.cellsT, List.mem_cons, List.not_mem_nil, or_false] at hu; rcases hu with rfl | rfl | rfl | rfl | rfl <;> rfl) (by omega) (by unfold maxLen; omega) (by omega) W0B.out _ rfl ?_; intro g' cap' w' hown hgr hor hlt; have FIN := Lib.hid (TF.out g' cap' w' hown hgr); clear hown hgr hor hlt n0 n1 n2 n3 n4 lt TF W0A W0N W0B HH)
              go_roundw
              case rel => exact ⟨j + 1, by go_num, by omega, by rw [E0.out]; exact FIN.out⟩
              case measure => simp [intOf]; omega
    · obtain rfl : j = L.length := by omega
      rw [List.take_length] at hA
      have hfine : ∀ k ∈ T.flushT L al a ev s, T.Fine k := fun k hk => HF.out k (List.mem_filter.1 hk).1
      have hle : (T.flushT L al a ev s).length ≤ most := Nat.le_trans (List.length_filter_le _ _) hQ.le
      have pf := hQ.ptr.free
      have fin := fun (u : Value) (hA : T.Arr 142 wr w.heap.size u (T.flushT L al a ev s)) => And.intro (QT.put hQ (Sl.of_arr hA) hfine hle) (gr_set (i := 1) (gr_none hG (some p)) u)
      have FIN := Lib.hid fin
      have HA := Lib.hid hA
      rcases hA.shape with rfl | ⟨g', n', cap', rfl⟩
      all_goals
        clear hA fin hfine hQ hG hj
        go_wp2_with fail
        first | go_end0 | refine bodyPost_ret (results_none rfl _ _ _) rfl ?_
        exact ⟨rfl, ⟨_, (FIN.out _ HA.out).1⟩, (FIN.out _ HA.out).2⟩
end Go.Proofs.Ytkfmcbhoendocaa
end

section
namespace Go.Proofs.Ytkfmcbhoendocaa
open Go Go.RowKit W M D A C P K
set_option linter.unusedVariables false
set_option linter.unusedSimpArgs false

theorem run_app_none (w : World) (x : Nat) (ty : TypeId) : (Builtin.append_ #[71, 71] ty #[.slice (some ⟨x, 0, none⟩) 0 0, .slice none 0 0]).run Try.prog w = .ok (.slice (some ⟨x, 0, none⟩) 0 0) w := by kernel_rfl
theorem run_app_zero (w : World) (x : Nat) (a : Addr) (c : Nat) (ty : TypeId) : (Builtin.append_ #[71, 71] ty #[.slice (some ⟨x, 0, none⟩) 0 0, .slice (some a) 0 c]).run Try.prog w = .ok (.slice (some ⟨x, 0, none⟩) 0 0) w := by kernel_rfl
theorem flat_one : ∀ (L : List T.Lf), ∀ u ∈ T.flat L, u.oneCell' = true
  | [], u, hu => by cases hu
  | k :: L, u, hu => by
    rw [T.flat, List.mem_append] at hu
    rcases hu with hu | hu
    · simp only [T.cellsT, List.mem_cons, List.not_mem_nil, or_false] at hu
      rcases hu with rfl | rfl | rfl | rfl | rfl <;> rfl
    · exact flat_one L u hu
/-- All leaves appended to an empty slice of its own. -/
theorem app_all {w : World} {v : Value} {L : List T.Lf} (h : Sl w v L) (hl : L.length ≤ 8) {B x : Nat} (hx : Row w x 142 []) (hB : B ≤ x) (ty : TypeId) :
    ∃ u w', (Builtin.append_ #[71, 71] ty #[.slice (some ⟨x, 0, none⟩) 0 0, v]).run Try.prog w = .ok u w' ∧ T.Arr 142 w' B u L ∧ w.grownBy w' (some x) ∧ (∃ g cap, u = .slice (some ⟨g, 0, none⟩) L.length cap ∧ g < w'.heap.size) := by
  have hA : T.Arr 142 w B (.slice (some ⟨x, 0, none⟩) 0 0) [] := T.Laid.arr (L := []) (cap := 0) (cur := []) ⟨hx, rfl, Nat.le_refl _, by decide, rfl⟩ hB
  rcases h with ⟨rfl, rfl⟩ | ⟨g, o, cap, cur, rfl, h2, h3, h4, h5, h6⟩
  · exact ⟨_, w, run_app_none w x ty, hA, gr_refl _ _, ⟨x, 0, rfl, hx.lt⟩⟩
  · by_cases h0 : L.length = 0
    · obtain rfl := List.eq_nil_of_length_eq_zero h0
      exact ⟨_, w, run_app_zero w x _ cap ty, hA, gr_refl _ _, ⟨x, 0, rfl, hx.lt⟩⟩
    · obtain ⟨i0, hi0, hz0, hs0, hb0⟩ := info_parts infoR
      have hnews : ∀ j u, (T.flat L)[j]? = some u → w.cell? ((⟨g, o * 5, none⟩ : Addr).add j) = some u := fun j u hj => by
        have hjl : j < L.length * 5 := by have := (List.getElem?_eq_some_iff.1 hj).1; rw [T.flat_length] at this; exact this
        rw [addr_add, h4.cell, ← hj, ← h6, List.getElem?_take_of_lt hjl, List.getElem?_drop]
      have hone : ∀ u ∈ T.flat L, u.oneCell' = true := flat_one L
      obtain ⟨g', cap', w', hr, hown, hgr, hor, hlt⟩ := run_append_lies (P := Try.prog) w 71 ty B 142 i0 _ 5 40 Try.underlying71 hi0 hz0 hs0 hb0 rfl (by decide) (.slice (some ⟨x, 0, none⟩) 0 0) 0 (T.flat []) hA ⟨g, o * 5, none⟩ L.length cap (T.flat L) (T.flat_length L) hnews hone (by omega) (by unfold maxLen; omega) (by omega) (Nat.le_of_lt (Nat.lt_of_le_of_lt hB hx.lt)) _ rfl
      rw [Nat.zero_add] at hr hown
      exact ⟨_, w', hr, hown, hgr, ⟨g', cap', rfl, hlt⟩⟩
/-- The run of an append, told without being run. -/
structure AppRun (P : Program) (t ty : TypeId) (s x v : Value) (w w' : World) : Prop where
  run : (Builtin.append_ #[t, t] ty #[s, x]).run P w = .ok v w'
/-- An append by what its run is, at a step of a region that draws its order. -/
theorem step_append_eq {P : Program} {w V w' : World} {ops : Array Oper} {o : Oper} {a : Act} {K : Act → World → Prop} {Q : Exit → Act → World → Prop} {E : Prop} (y : Value) (hy : a.tmps.getD 24 undef = y) (hgd : o.guard = none) (s x : Operand) (t ty : TypeId)
    (hop : o.op = Op.call { callee := Callee.builtin Builtin.append, args := #[s, x], argTypes := #[t, t] }) (hty : o.type = ty) {sv xv v : Value} (hs : a.eval s = sv) (hx : a.eval x = xv) (hwV : w = V) (hrun : AppRun P t ty sv xv v V w')
    (hK : K (a.put o.dst v) w') : if Region.wanted o (yielded ops a.tmps) = true then Oper.wp P o a w K Q else E := by
  subst hwV hs hx hty
  have hw : Region.wanted o (yielded ops a.tmps) = true := by simp [Region.wanted, hgd]
  rw [if_pos hw]
  unfold Oper.wp
  simp [execOp, hop, resolve, invoke, builtin, hrun.run, Result.andThen]
  exact hK
theorem app_all2 {w : World} {v : Value} {L : List T.Lf} (h : Sl w v L) (hl : L.length ≤ 8) {B x : Nat} (hx : Row w x 142 []) (hB : B ≤ x) (ty : TypeId) :
    ∃ u w', AppRun Try.prog 71 ty (.slice (some ⟨x, 0, none⟩) 0 0) v u w w' ∧ T.Arr 142 w' B u L ∧ w.grownBy w' (some x) ∧ (∃ g cap, u = .slice (some ⟨g, 0, none⟩) L.length cap ∧ g < w'.heap.size) := by
  obtain ⟨u, w', h1, h2⟩ := app_all h hl hx hB ty
  exact ⟨u, w', ⟨h1⟩, h2⟩
theorem fresh2r (w : World) (o : Obj) (t : TypeId) (l : List Value) : Row ((w.alloc o).alloc (.cells l.toArray t)) (w.heap.size + 1) t l := by
  have := Row.fresh (w.alloc o) t l
  rw [show (w.alloc o).heap.size = w.heap.size + 1 from Array.size_push ..] at this
  exact this
theorem news_row {w : World} {y : Nat} {t : TypeId} {l : List Value} (h : Row w y t l) : ∀ j u, l[j]? = some u → w.cell? ((⟨y, 0, none⟩ : Addr).add j) = some u := fun j u hj => by
  rw [addr_add, Nat.zero_add, h.cell]; exact hj
theorem cells_one (k : T.Lf) : ∀ u ∈ T.cellsT k, u.oneCell' = true := by
  intro u hu
  simp only [T.cellsT, List.mem_cons, List.not_mem_nil, or_false] at hu
  rcases hu with rfl | rfl | rfl | rfl | rfl <;> rfl
theorem arr_cap {w : World} {B g cap m : Nat} {L : List T.Lf} (h : T.Arr 142 w B (.slice (some ⟨g, 0, none⟩) m cap) L) : L.length ≤ cap := by
  rcases h.parts with ⟨e, -⟩ | ⟨g', cap', cur, e, hB, hl⟩
  · cases e
  · injection e with e1 e2 e3
    subst e3
    exact hl.le
/-- All but the first. -/
theorem sl_tail {w : World} {B g cap : Nat} {x : T.Lf} {M : List T.Lf} {m : Nat} (h : T.Arr 142 w B (.slice (some ⟨g, 0, none⟩) m cap) (x :: M)) : Sl w (.slice (some ⟨g, 5, none⟩) M.length (cap - 1)) M := by
  rcases h.parts with ⟨e, -⟩ | ⟨g', cap', cur, e, hB, hl⟩
  · cases e
  · injection e with e1 e2 e3
    injection e1 with e1
    injection e1 with e1
    subst e1 e3
    have h1 := hl.le
    rw [List.length_cons] at h1
    refine Or.inr ⟨g, 1, cap - 1, cur, by rw [Nat.one_mul], by omega, by have := hl.cap; omega, hl.row, by rw [hl.len]; congr 1; omega, ?_⟩
    have h2 := hl.tk
    have h3 := congrArg (List.drop 5) h2
    rw [List.drop_take, show (x :: M).length * 5 - 5 = M.length * 5 by rw [List.length_cons]; omega] at h3
    rw [Nat.one_mul, h3]
    rfl
/-- What stands while the leaf is put. -/
def PutS (W0 : World) (b p : Nat) (pte lev : Int) (glob : Bool) (v : Value) (w : World) : Prop := w.cell? ⟨b, 0, none⟩ = some (.int .u64 pte) ∧ w.cell? ⟨b, 1, none⟩ = some (.int .i64 lev) ∧ w.cell? ⟨b, 2, none⟩ = some (.bool glob) ∧ w.cell? ⟨p, 1, none⟩ = some v ∧ W0.grownBy w none
theorem puts_of {W w : World} {b p most : Nat} {pte lev n : Int} {glob : Bool} {v : Value} {L : List T.Lf} (hF : Row W b 52 [.int .u64 pte, .int .i64 lev, .bool glob]) (hQ : QT W p most v n L) (g : W.grownBy w none) : PutS W b p pte lev glob v w :=
  ⟨(hF.grown g (by simp)).cell 0, (hF.grown g (by simp)).cell 1, (hF.grown g (by simp)).cell 2, (hQ.kept g).c1, g⟩
set_option maxRecDepth 100000 in
set_option maxHeartbeats 4000000 in
theorem rPut_tlb (p most : Nat) (v : Value) (n : Int) (L : List T.Lf) (k : T.Lf) (hk : T.Fine k) (w : World) (h : QT w p most v n L) :
    Calls Try.prog 28 #[.pointer (some ⟨p, 0, none⟩), .int .u64 k.va, .int .u64 k.asid, vLeaf k.pte k.lev k.glob] w fun e w' => e = .returned (.tuple #[]) ∧ (∃ v', QT w' p most v' n (T.putT most L k)) ∧ w.grownBy w' (some p) := by
  have HK := Lib.hid hk
  obtain ⟨va, asid, pte, lev, glob⟩ := k
  obtain ⟨h1, h2, h3, h4, h5⟩ := hk
  simp only at h1 h2 h3 h4 h5
  unfold vLeaf
  simp only
  have G0 := gr_alloc (gr_refl w none) (.cells #[.int .u64 pte, .int .i64 lev, .bool glob] 52)
  have hF := Row.fresh w 52 [.int .u64 pte, .int .i64 lev, .bool glob]
  have hQ := h.kept G0
  have hle := h.le
  have hm8 := h.most
  have c0 := hQ.c0
  have c1 := hQ.c1
  have lp := hQ.ptr.lt
  by_cases hm0 : most = 0
  · subst hm0
    have FIN := Lib.hid (show (∃ v', QT (w.alloc (.cells #[.int .u64 pte, .int .i64 lev, .bool glob] 52)) p 0 v' n (T.putT 0 L ⟨va, asid, pte, lev, glob⟩)) ∧ w.grownBy (w.alloc (.cells #[.int .u64 pte, .int .i64 lev, .bool glob] 52)) (some p) from ⟨⟨v, by unfold T.putT; rw [if_pos rfl]; exact hQ⟩, gr_none G0 _⟩)
    clear hQ h G0 hF
    go_enter Try.func28, Try.ntmps28
    go_wp2_with fail
    first | go_end0 | refine bodyPost_ret (results_none rfl _ _ _) rfl ?_
    exact ⟨rfl, FIN.out⟩
  · have hz0 : ((most : Int) == 0) = false := by simp [hm0]
    have HQ := Lib.hid hQ
    have HG := Lib.hid G0
    have HF := Lib.hid hF
    have BS := Lib.hid (show (w.alloc (.cells #[.int .u64 pte, .int .i64 lev, .bool glob] 52)).heap.size = w.heap.size + 1 from Array.size_push ..)
    have HM := Lib.hid hm0
    clear hQ h G0 hF hm0
    go_enter Try.func28, Try.ntmps28
    obtain ⟨b, hb⟩ : ∃ b, w.heap.size = b := ⟨_, rfl⟩
    have HB := Lib.hid hb
    go_upto_region 2 with (fail)
    rw [hb] at HF BS
    clear hb
    generalize w.alloc (.cells #[.int .u64 pte, .int .i64 lev, .bool glob] 52) = W at *
    go_cut [8] from 14 to 25 (fun c wc => ∃ g cap, c = .slice (some ⟨g, 0, none⟩) (L.length + 1) cap ∧ T.Arr 142 wc w.heap.size c (L ++ [⟨va, asid, pte, lev, glob⟩]) ∧ QT wc p most v n L ∧ w.grownBy wc none)
    case first =>
      have hF := HF.out
      have hQ := HQ.out
      have y0 : W.cell? ⟨b, 0, none⟩ = some (.int .u64 pte) := hF.cell 0
      have y1 : W.cell? ⟨b, 1, none⟩ = some (.int .i64 lev) := hF.cell 1
      have y2 : W.cell? ⟨b, 2, none⟩ = some (.bool glob) := hF.cell 2
      have lb := hF.lt
      have APP := Lib.hid (fun (V : World) (hV : W.grownBy V none) (x : Nat) (hx : Row V x 142 []) (hB : W.heap.size ≤ x) => app_all2 (hQ.sl.kept hV) (by omega) hx hB 71)
      obtain ⟨i0, hi0, hz0', hs0, hb0⟩ := info_parts infoR
      have HI := Lib.hid (And.intro hi0 (And.intro hz0' (And.intro hs0 hb0)))
      have hl8 : L.length ≤ 8 := by omega
      obtain ⟨A, cap, rfl, hcap⟩ := hQ.sl.len
      clear hi0 hz0' hs0 hb0 hcap
      have hS0 := puts_of hF hQ (gr_refl W none)
      unfold PutS at hS0
      clear y0 y1 y2 lb c1 c0 lp hF hQ
      go_region_held3 (fun w' => w'.cell? ⟨b, 0, none⟩ = some (.int .u64 pte) ∧ w'.cell? ⟨b, 1, none⟩ = some (.int .i64 lev) ∧ w'.cell? ⟨b, 2, none⟩ = some (.bool glob) ∧ w'.cell? ⟨p, 1, none⟩ = some (.slice A L.length cap) ∧ W.grownBy w' none)
        (first | assumption | (exact puts_of HF.out HQ.out (gr_drew (gr_refl W none))) | (exact puts_of HF.out HQ.out (gr_drew (gr_alloc (gr_refl W none) _))) | (exact puts_of HF.out HQ.out (gr_drew (gr_alloc (gr_alloc (gr_refl W none) _) _))) | (exact puts_of HF.out HQ.out (gr_alloc HA.out.2 _)) | (exact puts_of HF.out HQ.out (gr_drew (gr_alloc HA.out.2 _))))
        (first
        | (obtain ⟨u, w1, hrun, hA1, hg1, g1, cp1, hu, hl1⟩ := APP.out ((W.alloc (.cells #[] 142)).drew) (gr_drew (gr_alloc (gr_refl W none) _)) (W.heap.size) (Row.grown (Row.fresh W 142 []) (gr_drew (gr_refl _ none)) (by simp)) (Nat.le_refl _); subst hu; refine step_append_eq (V := ((W.alloc (.cells #[] 142)).drew)) undef rfl rfl (.tmp 14) (.tmp 18) 71 71 rfl rfl rfl rfl rfl hrun ?_; have GW := gr_row (gr_trans (gr_none (gr_drew (gr_alloc (gr_refl W none) _)) (some (W.heap.size))) hg1) (by omega); have HA := Lib.hid (And.intro hA1 GW); have z1 := GW.size; have hSn : PutS W b p pte lev glob (.slice A L.length cap) w1 := puts_of HF.out HQ.out GW; unfold PutS at hSn; clear hrun hA1 hg1 GW)
        | (obtain ⟨u, w1, hrun, hA1, hg1, g1, cp1, hu, hl1⟩ := APP.out (((W.alloc (.cells #[] 142)).alloc (.cells #[.int .u64 va, .int .u64 asid, .int .u64 pte, .int .i64 lev, .bool glob] 142)).drew) (gr_drew (gr_alloc (gr_alloc (gr_refl W none) _) _)) (W.heap.size) (Row.grown ((Row.fresh W 142 []).alloc (.cells #[.int .u64 va, .int .u64 asid, .int .u64 pte, .int .i64 lev, .bool glob] 142)) (gr_drew (gr_refl _ none)) (by simp)) (Nat.le_refl _); subst hu; refine step_append_eq (V := (((W.alloc (.cells #[] 142)).alloc (.cells #[.int .u64 va, .int .u64 asid, .int .u64 pte, .int .i64 lev, .bool glob] 142)).drew)) (.slice (some ⟨W.heap.size + 1, 0, none⟩) 1 1) rfl rfl (.tmp 14) (.tmp 18) 71 71 rfl rfl rfl rfl rfl hrun ?_; have GW := gr_row (gr_trans (gr_none (gr_drew (gr_alloc (gr_alloc (gr_refl W none) _) _)) (some (W.heap.size))) hg1) (by omega); have HY := Lib.hid (And.intro hA1 (And.intro (Row.grown (Row.grown (fresh2r W (.cells #[] 142) 142 (T.cellsT (⟨va, asid, pte, lev, glob⟩ : T.Lf))) (gr_drew (gr_refl _ none)) (by simp)) hg1 (some_ne (by show W.heap.size + 1 ≠ W.heap.size; omega))) GW)); have z1 := GW.size; have hSn : PutS W b p pte lev glob (.slice A L.length cap) w1 := puts_of HF.out HQ.out GW; unfold PutS at hSn; clear hrun hA1 hg1 GW)
        | (obtain ⟨u, w1, hrun, hA1, hg1, g1, cp1, hu, hl1⟩ := APP.out (((W.alloc (.cells #[.int .u64 va, .int .u64 asid, .int .u64 pte, .int .i64 lev, .bool glob] 142)).alloc (.cells #[] 142)).drew) (gr_drew (gr_alloc (gr_alloc (gr_refl W none) _) _)) (W.heap.size + 1) (Row.grown (fresh2r W (.cells #[.int .u64 va, .int .u64 asid, .int .u64 pte, .int .i64 lev, .bool glob] 142) 142 []) (gr_drew (gr_refl _ none)) (by simp)) (Nat.le_succ _); subst hu; refine step_append_eq (V := (((W.alloc (.cells #[.int .u64 va, .int .u64 asid, .int .u64 pte, .int .i64 lev, .bool glob] 142)).alloc (.cells #[] 142)).drew)) (.slice (some ⟨W.heap.size, 0, none⟩) 1 1) rfl rfl (.tmp 14) (.tmp 18) 71 71 rfl rfl rfl rfl rfl hrun ?_; have GW := gr_row (gr_trans (gr_none (gr_drew (gr_alloc (gr_alloc (gr_refl W none) _) _)) (some (W.heap.size + 1))) hg1) (by omega); have HX := Lib.hid (And.intro hA1 (And.intro (Row.grown (Row.grown ((Row.fresh W 142 (T.cellsT (⟨va, asid, pte, lev, glob⟩ : T.Lf))).alloc (.cells #[] 142)) (gr_drew (gr_refl _ none)) (by simp)) hg1 (some_ne (by show W.heap.size ≠ W.heap.size + 1; omega))) GW)); have z1 := GW.size; have hSn : PutS W b p pte lev glob (.slice A L.length cap) w1 := puts_of HF.out HQ.out GW; unfold PutS at hSn; clear hrun hA1 hg1 GW)
        | (refine step_append_lies _ rfl (.tmp 19) (.tmp 24) 71 rfl W.heap.size 142 i0 _ 5 40 Try.underlying71 HI.out.1 HI.out.2.1 HI.out.2.2.1 HI.out.2.2.2 rfl (by decide) (.slice (some ⟨g1, 0, none⟩) L.length cp1) L.length (T.flat L) (by simp [Act.eval, Act.put]) (T.Arr.kept HA.out.1 (gr_alloc (gr_refl w1 none) (.cells #[.int .u64 va, .int .u64 asid, .int .u64 pte, .int .i64 lev, .bool glob] 142))) ⟨w1.heap.size, 0, none⟩ 1 1 (T.cellsT (⟨va, asid, pte, lev, glob⟩ : T.Lf)) (by simp [Act.eval, Act.put]) (by rfl) (news_row (Row.fresh w1 142 (T.cellsT (⟨va, asid, pte, lev, glob⟩ : T.Lf)))) (cells_one _) (by omega) (by unfold maxLen; omega) (by omega) (Nat.le_trans z1 (by first | exact Nat.le_refl _ | exact (gr_alloc (gr_refl w1 none) _).size)) _ rfl ?_; intro g' cap' w' hown hgr hor hlt; have FIN := Lib.hid (flush_fin (k := (⟨va, asid, pte, lev, glob⟩ : T.Lf)) (M := L) (g := g') (cap := cap') (w' := w') HQ.out HA.out.2 (gr_alloc (gr_refl w1 none) _) HA.out.1 hown hgr); have hSn2 : PutS W b p pte lev glob (.slice A L.length cap) w' := puts_of HF.out HQ.out FIN.out.2.2; unfold PutS at hSn2; clear hown hgr hor hlt)
        | (refine step_append_lies _ rfl (.tmp 19) (.tmp 24) 71 rfl W.heap.size 142 i0 _ 5 40 Try.underlying71 HI.out.1 HI.out.2.1 HI.out.2.2.1 HI.out.2.2.2 rfl (by decide) (.slice (some ⟨g1, 0, none⟩) L.length cp1) L.length (T.flat L) (by simp [Act.eval, Act.put]) (HY.out.1) ⟨W.heap.size + 1, 0, none⟩ 1 1 (T.cellsT (⟨va, asid, pte, lev, glob⟩ : T.Lf)) (by simp [Act.eval, Act.put]) (by rfl) (news_row HY.out.2.1) (cells_one _) (by omega) (by unfold maxLen; omega) (by omega) (Nat.le_trans z1 (by first | exact Nat.le_refl _ | exact (gr_alloc (gr_refl w1 none) _).size)) _ rfl ?_; intro g' cap' w' hown hgr hor hlt; have FIN := Lib.hid (flush_fin (k := (⟨va, asid, pte, lev, glob⟩ : T.Lf)) (M := L) (g := g') (cap := cap') (w' := w') HQ.out HY.out.2.2 (gr_refl w1 none) HY.out.1 hown hgr); have hSn2 : PutS W b p pte lev glob (.slice A L.length cap) w' := puts_of HF.out HQ.out FIN.out.2.2; unfold PutS at hSn2; clear hown hgr hor hlt)
        | (refine step_append_lies _ rfl (.tmp 19) (.tmp 24) 71 rfl W.heap.size 142 i0 _ 5 40 Try.underlying71 HI.out.1 HI.out.2.1 HI.out.2.2.1 HI.out.2.2.2 rfl (by decide) (.slice (some ⟨g1, 0, none⟩) L.length cp1) L.length (T.flat L) (by simp [Act.eval, Act.put]) (HX.out.1) ⟨W.heap.size, 0, none⟩ 1 1 (T.cellsT (⟨va, asid, pte, lev, glob⟩ : T.Lf)) (by simp [Act.eval, Act.put]) (by rfl) (news_row HX.out.2.1) (cells_one _) (by omega) (by unfold maxLen; omega) (by omega) (Nat.le_trans z1 (by first | exact Nat.le_refl _ | exact (gr_alloc (gr_refl w1 none) _).size)) _ rfl ?_; intro g' cap' w' hown hgr hor hlt; have FIN := Lib.hid (flush_fin (k := (⟨va, asid, pte, lev, glob⟩ : T.Lf)) (M := L) (g := g') (cap := cap') (w' := w') HQ.out HX.out.2.2 (gr_refl w1 none) HX.out.1 hown hgr); have hSn2 : PutS W b p pte lev glob (.slice A L.length cap) w' := puts_of HF.out HQ.out FIN.out.2.2; unfold PutS at hSn2; clear hown hgr hor hlt))
      all_goals
        have HC := Lib.hid (And.intro (T.Arr.less FIN.out.1 HG.out.size) (And.intro FIN.out.2.1 (gr_trans HG.out FIN.out.2.2)))
        clear FIN hSn2
        go_wp2_with fail
        go_meet
        case rel => exact ⟨g', cap', rfl, HC.out⟩
    case rest =>
      obtain ⟨g, cap, rfl, hA, hQ, hG⟩ := hcut
      have c0 := hQ.c0
      have c1 := hQ.c1
      have lp := hQ.ptr.lt
      have pf := hQ.ptr.free 1
      have hfine : ∀ x ∈ L ++ [(⟨va, asid, pte, lev, glob⟩ : T.Lf)], T.Fine x := fun x hx => by
        rcases List.mem_append.1 hx with hx | hx
        · exact hQ.fine x hx
        · rw [List.mem_singleton.1 hx]; exact HK.out
      by_cases hfull : L.length = most
      · obtain ⟨x, M, rfl⟩ : ∃ x M, L = x :: M := by
          cases L with
          | nil => exact absurd hfull.symm HM.out
          | cons x M => exact ⟨x, M, rfl⟩
        have hxl : (x :: M).length = M.length + 1 := List.length_cons
        have hml : (M ++ [(⟨va, asid, pte, lev, glob⟩ : T.Lf)]).length = most := by rw [List.length_append]; show M.length + 1 = most; omega
        have hS := sl_tail (M := M ++ [(⟨va, asid, pte, lev, glob⟩ : T.Lf)]) (x := x) hA
        rw [hml] at hS
        have hcp : 1 < cap := by
          have := arr_cap hA
          simp only [List.length_append, List.length_cons, List.length_nil] at this
          omega
        have hcp' : ¬ cap - 1 = 0 := by omega
        have PT := Lib.hid (show T.putT most (x :: M) ⟨va, asid, pte, lev, glob⟩ = M ++ [⟨va, asid, pte, lev, glob⟩] by unfold T.putT; rw [if_neg HM.out, if_pos hfull]; rfl)
        have FIN := Lib.hid (And.intro (QT.put hQ hS (fun y hy => hfine y (by exact List.mem_cons_of_mem _ hy)) (Nat.le_of_eq hml)) (gr_set (i := 1) (gr_none hG (some p)) (.slice (some ⟨g, 5, none⟩) most (cap - 1))))
        clear hA hQ hG hS hfine hml hxl
        go_wp2_with fail
        first | go_end0 | refine bodyPost_ret (results_none rfl _ _ _) rfl ?_
        exact ⟨rfl, ⟨_, by rw [PT.out]; exact FIN.out.1⟩, FIN.out.2⟩
      · have PT := Lib.hid (show T.putT most L ⟨va, asid, pte, lev, glob⟩ = L ++ [⟨va, asid, pte, lev, glob⟩] by unfold T.putT; rw [if_neg HM.out, if_neg hfull])
        have FIN := Lib.hid (And.intro (QT.put hQ (Sl.of_arr hA) hfine (by rw [List.length_append]; show L.length + 1 ≤ most; omega)) (gr_set (i := 1) (gr_none hG (some p)) (.slice (some ⟨g, 0, none⟩) (L.length + 1) cap)))
        have hng : ¬ ((L.length : Int) + 1 > (most : Int)) := by omega
        clear hA hQ hG hfine hfull
        go_wp2_with fail
        first | go_end0 | refine bodyPost_ret (results_none rfl _ _ _) rfl ?_
        exact ⟨rfl, ⟨_, by rw [PT.out]; exact FIN.out.1⟩, FIN.out.2⟩
end Go.Proofs.Ytkfmcbhoendocaa
end

section
namespace Go.Proofs.Ytkfmcbhoendocaa
open Go Go.RowKit W M D A C P K
set_option linter.unusedVariables false
set_option linter.unusedSimpArgs false

theorem cells3q {w : World} {g : Nat} {t : TypeId} {x y z : Value} (h : Row w g t [x, y, z]) : w.cell? ⟨g, 0, none⟩ = some x ∧ w.cell? ⟨g, 1, none⟩ = some y ∧ w.cell? ⟨g, 2, none⟩ = some z := ⟨h.cell 0, h.cell 1, h.cell 2⟩
theorem rfresh2 (w : World) (o : Obj) (t : TypeId) (l : List Value) : Row ((w.alloc o).alloc (.cells l.toArray t)) (w.heap.size + 1) t l := by
  have := Row.fresh (w.alloc o) t l
  rw [show (w.alloc o).heap.size = w.heap.size + 1 from Array.size_push ..] at this
  exact this
/-- What is found, or not, in one way. -/
theorem find_kinds {L : List T.Lf} (hf : ∀ k ∈ L, T.Fine k) (va s kind priv st : Int) :
    ∃ e l g fd, vGot (T.findT L va s) = .agg #[.int .u64 e, .int .i64 l, .bool g] ∧ (T.findT L va s).isSome = fd ∧ B64 e ∧ I64 l ∧
      ((fd && mayV e kind priv st) = true → ∃ k, T.findT L va s = some k ∧ k.pte = e ∧ k.lev = l) ∧ ((fd && mayV e kind priv st) = false → ∀ k, T.findT L va s = some k → mayV k.pte kind priv st = false) := by
  cases h : T.findT L va s with
  | none => exact ⟨0, 0, false, false, rfl, rfl, by decide, by unfold I64; omega, fun h => (by cases h), fun _ k hk => (by cases hk)⟩
  | some k =>
    obtain ⟨-, -, h3, h4, h5⟩ := hf k (List.mem_of_find?_eq_some h)
    exact ⟨k.pte, k.lev, k.glob, true, rfl, rfl, h3, by unfold I64; omega, fun _ => ⟨k, rfl, rfl, rfl⟩, fun hm k' hk' => by injection hk' with e; subst e; exact hm⟩
/-- What Put leaves. -/
def PutDoes : Prop := ∀ (p most : Nat) (v : Value) (n : Int) (L : List T.Lf) (k : T.Lf), T.Fine k → ∀ w : World, QT w p most v n L →
  Calls Try.prog 28 #[.pointer (some ⟨p, 0, none⟩), .int .u64 k.va, .int .u64 k.asid, vLeaf k.pte k.lev k.glob] w fun e w' => e = .returned (.tuple #[]) ∧ (∃ v', QT w' p most v' n (T.putT most L k)) ∧ w.grownBy w' (some p)
/-- What stands while To goes on: the registers, an empty fault; memory; the row. -/
structure Gq (w : World) (b pm gm : Nat) (bs : List Int) (c : Cs) (p most : Nat) (n : Int) (L : List T.Lf) (wr : World) : Prop where
  csr : Row wr b 24 (lC c)
  flt : Row wr (b + 1) 48 [.bool false, .int .i64 0, .int .u64 0]
  mem : QAt wr pm gm bs
  row : ∃ v, QT wr p most v n L
  gr : w.grownBy wr (some p)
  sz : w.heap.size = b
section
variable {w wr ws : World} {b pm gm : Nat} {bs : List Int} {c : Cs} {p most : Nat} {n n' : Int} {L L' : List T.Lf}
theorem Gq.keep (h : Gq w b pm gm bs c p most n L wr) (hg : wr.grownBy ws none) : Gq w b pm gm bs c p most n L ws :=
  ⟨h.csr.grown hg (by simp), h.flt.grown hg (by simp), h.mem.kept hg, let ⟨v, hv⟩ := h.row; ⟨v, hv.kept hg⟩, gr_trans h.gr (gr_none hg _), h.sz⟩
theorem Gq.turn (h : Gq w b pm gm bs c p most n L wr) (hg : wr.grownBy ws (some p)) (hr : ∃ v, QT ws p most v n' L') : Gq w b pm gm bs c p most n' L' ws := by
  obtain ⟨v, hv⟩ := h.row
  exact ⟨h.csr.grown hg (some_ne (h.csr.apart hv.ptr (by decide))), h.flt.grown hg (some_ne (h.flt.apart hv.ptr (by decide))), ⟨h.mem.ptr.grown hg (some_ne (h.mem.ptr.apart hv.ptr (by decide))), h.mem.row.grown hg (some_ne (h.mem.row.apart hv.ptr (by decide))), h.mem.byt, h.mem.len⟩, hr, gr_trans h.gr hg, h.sz⟩
/-- The fault is stored: the end. -/
theorem Gq.done (h : Gq w b pm gm bs c p most n L wr) (x : Bool) (y z : Int) : Row (((wr.setCell ⟨b + 1, 0, none⟩ (.bool x)).setCell ⟨b + 1, 1, none⟩ (.int .i64 y)).setCell ⟨b + 1, 2, none⟩ (.int .u64 z)) (b + 1) 48 (lFault x y z) ∧
    (∃ v, QT (((wr.setCell ⟨b + 1, 0, none⟩ (.bool x)).setCell ⟨b + 1, 1, none⟩ (.int .i64 y)).setCell ⟨b + 1, 2, none⟩ (.int .u64 z)) p most v n L) ∧ w.grownBy (((wr.setCell ⟨b + 1, 0, none⟩ (.bool x)).setCell ⟨b + 1, 1, none⟩ (.int .i64 y)).setCell ⟨b + 1, 2, none⟩ (.int .u64 z)) (some p) := by
  obtain ⟨v, hv⟩ := h.row
  have hg : wr.grownBy (((wr.setCell ⟨b + 1, 0, none⟩ (.bool x)).setCell ⟨b + 1, 1, none⟩ (.int .i64 y)).setCell ⟨b + 1, 2, none⟩ (.int .u64 z)) (some (b + 1)) := gr_set (gr_set (gr_set (gr_refl _ _) _) _) _
  refine ⟨((h.flt.put 0 (.bool x)).put 1 (.int .i64 y)).put 2 (.int .u64 z), ⟨v, hv.ptr.grown hg (some_ne (hv.ptr.apart h.flt (by decide))), hv.sl.keep hg (fun g l e hr => ?_), hv.fine, hv.le, hv.most, hv.num⟩, ?_⟩
  · injection e with e
    subst e
    exact (h.flt.apart hr (by decide)) rfl
  · refine ⟨hg.os.trans h.gr.os, hg.tape.trans h.gr.tape, hg.output.trans h.gr.output, Nat.le_trans h.gr.size hg.size, fun k hk hn => ?_⟩
    rw [hg.block k (Nat.lt_of_lt_of_le hk h.gr.size) (by have := h.sz; exact some_ne (by omega)), h.gr.block k hk hn]
end
theorem gq_start (w : World) {pm gm : Nat} {bs : List Int} {c : Cs} {p most : Nat} {v : Value} {n : Int} {L : List T.Lf} (hm : QAt w pm gm bs) (h : QT w p most v n L) : Gq w w.heap.size pm gm bs c p most n L ((w.alloc (.cells (lC c).toArray 24)).alloc (.cells #[.bool false, .int .i64 0, .int .u64 0] 48)) := by
  have g := gr_alloc (gr_alloc (gr_refl w none) (.cells (lC c).toArray 24)) (.cells #[.bool false, .int .i64 0, .int .u64 0] 48)
  exact ⟨(Row.fresh w 24 (lC c)).alloc _, rfresh2 w (.cells (lC c).toArray 24) 48 [.bool false, .int .i64 0, .int .u64 0], hm.kept g, ⟨v, h.kept g⟩, gr_none g _, rfl⟩
set_option maxRecDepth 100000 in
set_option maxHeartbeats 8000000 in
theorem rTTo_c (PD : PutDoes) (pm gm : Nat) (bs : List Int) (c : Cs) (hc : C.Good c) (priv kind va : Int) (hp : I64 priv) (hk : I64 kind) (hv : B64 va) (p most : Nat) (v : Value) (n : Int) (L : List T.Lf) (w : World) (hm : QAt w pm gm bs) (hh : QT w p most v n L) :
    Calls Try.prog 30 #[.pointer (some ⟨p, 0, none⟩), .pointer (some ⟨pm, 0, none⟩), vC c, .int .i64 priv, .int .i64 kind, .int .u64 va] w fun e w' => e = .returned (.tuple #[.int .u64 (T.toRV bs L (gC c 9) (gC c 0) priv kind va), vF (T.toFV bs L (gC c 9) (gC c 0) priv kind va)]) ∧ (∃ v', QT w' p most v' (T.toNV L n (gC c 9) (gC c 0) priv kind va) (T.toLV bs most L (gC c 9) (gC c 0) priv kind va)) ∧ w.grownBy w' (some p) := by
  have HF0 := Lib.hid (gq_start (c := c) w hm hh)
  have PG := Lib.hid (fun W => rPaged_c c hc W)
  have CN := Lib.hid (fun W => rCanonical_c va hv W)
  have PF := Lib.hid (fun W => rFault_c kind va hk W)
  have WK := Lib.hid (fun W hW => rWalk_c pm gm bs c hc priv kind va hp hk hv W hW)
  have h0 := hc.get 0
  have h9 := hc.get 9
  have hfit := fits_walk hm.byt (sa := gC c 9) (st := gC c 0) (priv := priv) (kind := kind) hv
  have HLF := Lib.hid (T.lf_fine hm.byt (sa := gC c 9) (st := gC c 0) (priv := priv) (kind := kind) hv h9)
  have hcalm := calm_walk bs (gC c 9) (gC c 0) priv kind va
  have HUN := Lib.hid (fun h => T.to_un (bs := bs) (L := L) (n := n) (sa := gC c 9) (st := gC c 0) (priv := priv) (kind := kind) (va := va) (most := most) h)
  have HNC := Lib.hid (fun h h' => T.to_nc (bs := bs) (L := L) (n := n) (sa := gC c 9) (st := gC c 0) (priv := priv) (kind := kind) (va := va) (most := most) h h')
  have HHI := Lib.hid (fun k h h' hf hm => T.to_hit (bs := bs) (L := L) (n := n) (sa := gC c 9) (st := gC c 0) (priv := priv) (kind := kind) (va := va) (most := most) (k := k) h h' hf hm)
  have HNO := Lib.hid (fun h h' hf => T.hit_none (L := L) (sa := gC c 9) (st := gC c 0) (priv := priv) (kind := kind) (va := va) h h' hf)
  have HMF := Lib.hid (fun h h' hf hi => T.to_mf (bs := bs) (L := L) (n := n) (sa := gC c 9) (st := gC c 0) (priv := priv) (kind := kind) (va := va) (most := most) h h' hf hi)
  have HMM := Lib.hid (fun h h' hf hi => T.to_m (bs := bs) (L := L) (n := n) (sa := gC c 9) (st := gC c 0) (priv := priv) (kind := kind) (va := va) (most := most) h h' hf hi)
  generalize T.toRV bs L (gC c 9) (gC c 0) priv kind va = TV at *
  generalize T.toFV bs L (gC c 9) (gC c 0) priv kind va = FV at *
  generalize T.toLV bs most L (gC c 9) (gC c 0) priv kind va = LV at *
  generalize T.toNV L n (gC c 9) (gC c 0) priv kind va = NV at *
  generalize walkV bs (gC c 9) (gC c 0) priv kind va = R at *
  obtain ⟨a0, a1, a2, a3, a4, a5, a6, a7, a8, a9, a10, a11, rfl⟩ := twelve hc.1
  rw [show gC [a0, a1, a2, a3, a4, a5, a6, a7, a8, a9, a10, a11] 9 = a9 from rfl] at *
  rw [show gC [a0, a1, a2, a3, a4, a5, a6, a7, a8, a9, a10, a11] 0 = a0 from rfl] at *
  rw [show vC [a0, a1, a2, a3, a4, a5, a6, a7, a8, a9, a10, a11] = .agg #[.int .u64 a0, .int .u64 a1, .int .u64 a2, .int .u64 a3, .int .u64 a4, .int .u64 a5, .int .u64 a6, .int .u64 a7, .int .u64 a8, .int .u64 a9, .int .u64 a10, .int .u64 a11] from rfl] at *
  unfold vL vF vLeaf vFault at WK
  unfold vFault at PF
  obtain ⟨pt, lv, gb, isf, ca, vl⟩ := R
  simp only at WK HMF HMM HLF
  unfold Fits at hfit
  simp only at hfit
  obtain ⟨f0, f1, f2, f3, f4, f5⟩ := hfit
  unfold K.Calm at hcalm
  simp only at hcalm
  have AT := Lib.hid (fun W => rAt_c pt va lv f0 hv (by unfold I64; omega) W)
  have HCM := Lib.hid hcalm
  have has : 0 ≤ T.asidV a9 ∧ T.asidV a9 ≤ 65535 := by unfold T.asidV; omega
  have FD := Lib.hid (fun v W hW => rFind_c p most v n L va (T.asidV a9) hv (by unfold T.asidV B64 at *; omega) W hW)
  obtain ⟨e0, l0, g0, fd, q1, q2, q3, q4, q5, q6⟩ := find_kinds hh.fine va (T.asidV a9) kind priv a0
  rw [q1, q2] at FD
  have MY := Lib.hid (fun W => rMay_c e0 kind priv a0 q3 hk hp h0 W)
  have AK := Lib.hid (fun W => rAt_c e0 va l0 q3 hv q4 W)
  have HQ5 := Lib.hid q5
  have HQ6 := Lib.hid q6
  have hws : a9 / 17592186044416 % 65536 = T.asidV a9 := rfl
  have HN := Lib.hid (miss_64 n)
  have hnn : B64 n := hh.num
  have hms : IntKind.u64.wrap (n + 1) = missT n := by rw [u64_eq]; rfl
  have PU := Lib.hid (fun v W hW => PD p most v (missT n) L (T.lfV ⟨pt, lv, gb, isf, ca, vl⟩ va (T.asidV a9)) HLF.out W hW)
  unfold T.lfV vLeaf at PU
  simp only at PU
  unfold T.lfV at HMM
  simp only at HMM
  clear hc hm hcalm hh q1 q2 q5 q6
  generalize T.asidV a9 = s at *
  unfold B64 at hv f0 f5 h0 h9 q3 hnn
  unfold I64 at hp hk q4
  go_enter Try.func30, Try.ntmps30
  go_wp2_with fail
  have hF := HF0.out
  clear HF0
  unfold lC at hF
  simp only [List.map_cons, List.map_nil] at hF
  have hF : Gq w w.heap.size pm gm bs [a0, a1, a2, a3, a4, a5, a6, a7, a8, a9, a10, a11] p most n L ((w.alloc (.cells #[.int .u64 a0, .int .u64 a1, .int .u64 a2, .int .u64 a3, .int .u64 a4, .int .u64 a5, .int .u64 a6, .int .u64 a7, .int .u64 a8, .int .u64 a9, .int .u64 a10, .int .u64 a11] 24)).alloc (.cells #[.bool false, .int .i64 0, .int .u64 0] 48)) := hF
  generalize (w.alloc (.cells #[.int .u64 a0, .int .u64 a1, .int .u64 a2, .int .u64 a3, .int .u64 a4, .int .u64 a5, .int .u64 a6, .int .u64 a7, .int .u64 a8, .int .u64 a9, .int .u64 a10, .int .u64 a11] 24)).alloc (.cells #[.bool false, .int .i64 0, .int .u64 0] 48) = V at *
  generalize hbb : w.heap.size = b at *
  have k0 : V.cell? ⟨b, 0, none⟩ = some (.int .u64 a0) := hF.csr.cell 0
  have k1 : V.cell? ⟨b, 1, none⟩ = some (.int .u64 a1) := hF.csr.cell 1
  have k2 : V.cell? ⟨b, 2, none⟩ = some (.int .u64 a2) := hF.csr.cell 2
  have k3 : V.cell? ⟨b, 3, none⟩ = some (.int .u64 a3) := hF.csr.cell 3
  have k4 : V.cell? ⟨b, 4, none⟩ = some (.int .u64 a4) := hF.csr.cell 4
  have k5 : V.cell? ⟨b, 5, none⟩ = some (.int .u64 a5) := hF.csr.cell 5
  have k6 : V.cell? ⟨b, 6, none⟩ = some (.int .u64 a6) := hF.csr.cell 6
  have k7 : V.cell? ⟨b, 7, none⟩ = some (.int .u64 a7) := hF.csr.cell 7
  have k8 : V.cell? ⟨b, 8, none⟩ = some (.int .u64 a8) := hF.csr.cell 8
  have k9 : V.cell? ⟨b, 9, none⟩ = some (.int .u64 a9) := hF.csr.cell 9
  have k10 : V.cell? ⟨b, 10, none⟩ = some (.int .u64 a10) := hF.csr.cell 10
  have k11 : V.cell? ⟨b, 11, none⟩ = some (.int .u64 a11) := hF.csr.cell 11
  have ltb := hF.csr.lt
  have HFV := Lib.hid hF
  clear hF
  try go_wp2_with fail
  refine (PG.out _).mono ?_
  rintro e w1 ⟨rfl, hG⟩
  have hF := HFV.out.keep hG
  clear hG HFV PG k0 k1 k2 k3 k4 k5 k6 k7 k8 k9 k10 k11 ltb
  cases hpg : pagedV a9
  · obtain ⟨y1, y2, y3, y4⟩ := HUN.out hpg
    obtain ⟨z0, z1, z2⟩ := cells3q hF.flt
    have fy := hF.flt.free
    have lt := hF.flt.lt
    have dn := Lib.hid (hF.done false 0 0)
    have HY := Lib.hid (And.intro y1 (And.intro y2 (And.intro y3 y4)))
    clear hF y1 y2 y3 y4
    go_wp2_with fail
    exact ret_IF (b := false) (c := 0) (v := 0) rfl rfl rfl rfl dn.out.1 ⟨by rw [HY.out.1, HY.out.2.1]; rfl, by rw [HY.out.2.2.1, HY.out.2.2.2]; exact dn.out.2⟩
  · have HPG := Lib.hid hpg
    clear hpg
    go_wp2_with fail
    refine (CN.out _).mono ?_
    rintro e w2 ⟨rfl, rfl⟩
    cases hcn : canonV va
    · obtain ⟨y1, y2, y3, y4⟩ := HNC.out HPG.out hcn
      have HY := Lib.hid (And.intro y1 (And.intro y2 (And.intro y3 y4)))
      have HFF := Lib.hid hF
      clear hF y1 y2 y3 y4
      go_wp2_with fail
      refine (PF.out _).mono ?_
      rintro e w2 ⟨rfl, hG⟩
      have hF := HFF.out.keep hG
      obtain ⟨z0, z1, z2⟩ := cells3q hF.flt
      have fy := hF.flt.free
      have lt := hF.flt.lt
      have dn := Lib.hid (hF.done true (pfC kind) va)
      clear hF hG HFF
      go_wp2_with fail
      exact ret_IF (b := true) (c := pfC kind) (v := va) rfl rfl rfl rfl dn.out.1 ⟨by rw [HY.out.1, HY.out.2.1]; rfl, by rw [HY.out.2.2.1, HY.out.2.2.2]; exact dn.out.2⟩
    · have HCN := Lib.hid hcn
      clear hcn
      have k0 : w1.cell? ⟨b, 0, none⟩ = some (.int .u64 a0) := hF.csr.cell 0
      have k1 : w1.cell? ⟨b, 1, none⟩ = some (.int .u64 a1) := hF.csr.cell 1
      have k2 : w1.cell? ⟨b, 2, none⟩ = some (.int .u64 a2) := hF.csr.cell 2
      have k3 : w1.cell? ⟨b, 3, none⟩ = some (.int .u64 a3) := hF.csr.cell 3
      have k4 : w1.cell? ⟨b, 4, none⟩ = some (.int .u64 a4) := hF.csr.cell 4
      have k5 : w1.cell? ⟨b, 5, none⟩ = some (.int .u64 a5) := hF.csr.cell 5
      have k6 : w1.cell? ⟨b, 6, none⟩ = some (.int .u64 a6) := hF.csr.cell 6
      have k7 : w1.cell? ⟨b, 7, none⟩ = some (.int .u64 a7) := hF.csr.cell 7
      have k8 : w1.cell? ⟨b, 8, none⟩ = some (.int .u64 a8) := hF.csr.cell 8
      have k9 : w1.cell? ⟨b, 9, none⟩ = some (.int .u64 a9) := hF.csr.cell 9
      have k10 : w1.cell? ⟨b, 10, none⟩ = some (.int .u64 a10) := hF.csr.cell 10
      have k11 : w1.cell? ⟨b, 11, none⟩ = some (.int .u64 a11) := hF.csr.cell 11
      have ltb := hF.csr.lt
      have HFF := Lib.hid hF
      clear hF
      obtain ⟨v1, hv1⟩ := HFF.out.row
      have HV1 := Lib.hid hv1
      clear hv1
      go_wp2_with fail
      refine (FD.out _ _ HV1.out).mono ?_
      rintro e w2 ⟨rfl, hG⟩
      have hA := gr_alloc (gr_refl w2 none) (.cells #[.int .u64 e0, .int .i64 l0, .bool g0] 52)
      have hF := HFF.out.keep (gr_trans hG hA)
      have hQ := Row.fresh w2 52 [.int .u64 e0, .int .i64 l0, .bool g0]
      clear hG HFF HV1 hA k0 k1 k2 k3 k4 k5 k6 k7 k8 k9 k10 k11 ltb
      go_upto_region 9 with (fail)
      generalize w2.alloc (.cells #[.int .u64 e0, .int .i64 l0, .bool g0] 52) = U at *
      generalize w2.heap.size = q at *
      have m0 : U.cell? ⟨q, 0, none⟩ = some (.int .u64 e0) := hQ.cell 0
      have m1 : U.cell? ⟨q, 1, none⟩ = some (.int .i64 l0) := hQ.cell 1
      have lq := hQ.lt
      have k0 : U.cell? ⟨b, 0, none⟩ = some (.int .u64 a0) := hF.csr.cell 0
      have ltb := hF.csr.lt
      have HFU := Lib.hid hF
      clear hF hQ
      go_wp2_with fail
      refine (MY.out _).mono ?_
      rintro e w3 ⟨rfl, rfl⟩
      generalize hmy : mayV e0 kind priv a0 = my at *
      have HMY := Lib.hid hmy
      clear hmy
      go_upto_region 10 with (fail)
      go_cut [56] from 53 to 56 (fun c wc => c = .bool (fd && my) ∧ wc = U)
      case first =>
        cases fd
        · go_wp2_with fail
          go_meet
          case rel => exact ⟨rfl, rfl⟩
        · go_wp2_with fail
          go_meet
          case rel => exact ⟨rfl, rfl⟩
      case rest =>
        obtain ⟨rfl, rfl⟩ := hcut
        cases hfm : (fd && my)
        · have HNO' := Lib.hid (HNO.out HPG.out HCN.out (HQ6.out hfm))
          obtain ⟨v1, hv1⟩ := HFU.out.row
          have c2 := hv1.c2
          have f2 := hv1.ptr.free 2
          have lp := hv1.ptr.lt
          have hX := HFU.out.turn (gr_set (i := 2) (gr_refl wc (some p)) (.int .u64 (missT n))) ⟨v1, hv1.miss HN.out⟩
          have HX := Lib.hid hX
          clear hX hv1 HFU HHI HNO HQ5 HQ6 hfm m0 m1 lq k0 ltb AK
          go_upto_region 13 with (fail)
          clear c2 f2 lp
          generalize wc.setCell ⟨p, 2, none⟩ (.int .u64 (missT n)) = X at *
          have k0 : X.cell? ⟨b, 0, none⟩ = some (.int .u64 a0) := HX.out.csr.cell 0
          have k1 : X.cell? ⟨b, 1, none⟩ = some (.int .u64 a1) := HX.out.csr.cell 1
          have k2 : X.cell? ⟨b, 2, none⟩ = some (.int .u64 a2) := HX.out.csr.cell 2
          have k3 : X.cell? ⟨b, 3, none⟩ = some (.int .u64 a3) := HX.out.csr.cell 3
          have k4 : X.cell? ⟨b, 4, none⟩ = some (.int .u64 a4) := HX.out.csr.cell 4
          have k5 : X.cell? ⟨b, 5, none⟩ = some (.int .u64 a5) := HX.out.csr.cell 5
          have k6 : X.cell? ⟨b, 6, none⟩ = some (.int .u64 a6) := HX.out.csr.cell 6
          have k7 : X.cell? ⟨b, 7, none⟩ = some (.int .u64 a7) := HX.out.csr.cell 7
          have k8 : X.cell? ⟨b, 8, none⟩ = some (.int .u64 a8) := HX.out.csr.cell 8
          have k9 : X.cell? ⟨b, 9, none⟩ = some (.int .u64 a9) := HX.out.csr.cell 9
          have k10 : X.cell? ⟨b, 10, none⟩ = some (.int .u64 a10) := HX.out.csr.cell 10
          have k11 : X.cell? ⟨b, 11, none⟩ = some (.int .u64 a11) := HX.out.csr.cell 11
          have ltb := HX.out.csr.lt
          go_wp2_with fail
          refine (WK.out _ HX.out.mem).mono ?_
          rintro e w5 ⟨rfl, hG⟩
          clear k0 k1 k2 k3 k4 k5 k6 k7 k8 k9 k10 k11 ltb
          go_upto_region 14 with (fail)
          have hF := HX.out.keep (gr_trans hG (gr_alloc (gr_alloc (gr_refl w5 none) (.cells #[.int .u64 pt, .int .i64 lv, .bool gb] 52)) (.cells #[.bool isf, .int .i64 ca, .int .u64 vl] 48)))
          have hLr : Row ((w5.alloc (.cells #[.int .u64 pt, .int .i64 lv, .bool gb] 52)).alloc (.cells #[.bool isf, .int .i64 ca, .int .u64 vl] 48)) w5.heap.size 52 [.int .u64 pt, .int .i64 lv, .bool gb] := (Row.fresh w5 52 [.int .u64 pt, .int .i64 lv, .bool gb]).alloc _
          have hFr : Row ((w5.alloc (.cells #[.int .u64 pt, .int .i64 lv, .bool gb] 52)).alloc (.cells #[.bool isf, .int .i64 ca, .int .u64 vl] 48)) (w5.heap.size + 1) 48 [.bool isf, .int .i64 ca, .int .u64 vl] := rfresh2 w5 (.cells #[.int .u64 pt, .int .i64 lv, .bool gb] 52) 48 [.bool isf, .int .i64 ca, .int .u64 vl]
          clear hG HX
          generalize ((w5.alloc (.cells #[.int .u64 pt, .int .i64 lv, .bool gb] 52)).alloc (.cells #[.bool isf, .int .i64 ca, .int .u64 vl] 48)) = U6 at *
          generalize w5.heap.size = r at *
          obtain ⟨l0', l1', l2'⟩ := cells3q hLr
          obtain ⟨n0, n1, n2⟩ := cells3q hFr
          have lr := hLr.lt
          have ln := hFr.lt
          cases isf
          · obtain ⟨rfl, rfl⟩ := HCM.out.1 rfl
            obtain ⟨y1, y2, y3, y4⟩ := HMM.out HPG.out HCN.out HNO'.out rfl
            have HY := Lib.hid (And.intro y1 (And.intro y2 (And.intro y3 y4)))
            have HFF := Lib.hid hF
            have HLR := Lib.hid hLr
            have HFR := Lib.hid hFr
            obtain ⟨v6, hv6⟩ := hF.row
            have HV6 := Lib.hid hv6
            clear y1 y2 y3 y4 hF hLr hFr hv6
            go_wp2_with fail
            refine (PU.out _ _ HV6.out).mono ?_
            rintro e w7 ⟨rfl, hr, hG⟩
            have hF := HFF.out.turn hG hr
            have hLr := HLR.out.grown hG (some_ne (HLR.out.apart HV6.out.ptr (by decide)))
            have hFr := HFR.out.grown hG (some_ne (HFR.out.apart HV6.out.ptr (by decide)))
            clear hG hr HFF HLR HFR HV6 l0' l1' l2' n0 n1 n2 lr ln
            obtain ⟨l0', l1', l2'⟩ := cells3q hLr
            have lr := hLr.lt
            have HS := Lib.hid (And.intro hF hFr)
            clear hLr hF hFr
            go_upto_region 17 with (fail)
            obtain ⟨n0, n1, n2⟩ := cells3q HS.out.2
            obtain ⟨z0, z1, z2⟩ := cells3q HS.out.1.flt
            have fy := HS.out.1.flt.free
            have lt := HS.out.1.flt.lt
            have ln := HS.out.2.lt
            go_wp2_with fail
            go_region_with (first | (go_at_call 76; refine (AT.out _).mono ?_; rintro e w8 ⟨rfl, hg⟩; have hS8 := HS.out.1.keep (gr_trans (gr_drew (gr_refl w7 none)) hg); have hT8 := HS.out.2.grown (gr_trans (gr_drew (gr_refl w7 none)) hg) (by simp); obtain ⟨n0, n1, n2⟩ := cells3q hT8; obtain ⟨z0, z1, z2⟩ := cells3q hS8.flt; have fy := hS8.flt.free; have lt := hS8.flt.lt; have ln := hT8.lt; have HD := Lib.hid (hS8.done false 0 0); clear hS8 hT8 hg))
            all_goals
              go_wp2_with fail
              exact ret_IF (b := false) (c := 0) (v := 0) rfl rfl rfl rfl HD.out.1 ⟨by rw [HY.out.1, HY.out.2.1]; rfl, by rw [HY.out.2.2.1, HY.out.2.2.2]; exact HD.out.2⟩
          · obtain ⟨y1, y2, y3, y4⟩ := HMF.out HPG.out HCN.out HNO'.out rfl
            have HY := Lib.hid (And.intro y1 (And.intro y2 (And.intro y3 y4)))
            obtain ⟨z0, z1, z2⟩ := cells3q hF.flt
            have fy := hF.flt.free
            have lt := hF.flt.lt
            have dn := Lib.hid (hF.done true ca vl)
            clear y1 y2 y3 y4 hF hLr hFr l0' l1' l2' lr
            go_wp2_with fail
            go_region
            go_wp2_with fail
            exact ret_IF (b := true) (c := ca) (v := vl) rfl rfl rfl rfl (dn.out.1.grown (gr_drew (gr_refl _ none)) (by simp)) ⟨by rw [HY.out.1, HY.out.2.1]; rfl, by rw [HY.out.2.2.1, HY.out.2.2.2]; exact ⟨let ⟨v, hv⟩ := dn.out.2.1; ⟨v, hv.kept (gr_drew (gr_refl _ none))⟩, gr_drew dn.out.2.2⟩⟩
        · obtain ⟨k, x1, x2, x3⟩ := HQ5.out hfm
          obtain ⟨y1, y2, y3, y4⟩ := HHI.out k HPG.out HCN.out x1 (by rw [x2, HMY.out]; cases fd <;> cases my <;> first | rfl | cases hfm)
          rw [x2, x3] at y1
          have HY := Lib.hid (And.intro y1 (And.intro y2 (And.intro y3 y4)))
          clear hfm x1 x2 x3 y1 y2 y3 y4 k0 ltb
          go_wp2_with fail
          refine (AK.out _).mono ?_
          rintro e w4 ⟨rfl, hG⟩
          have hF := HFU.out.keep hG
          obtain ⟨z0, z1, z2⟩ := cells3q hF.flt
          have fy := hF.flt.free
          have lt := hF.flt.lt
          have dn := Lib.hid (hF.done false 0 0)
          clear hF hG HFU m0 m1 lq
          go_wp2_with fail
          exact ret_IF (b := false) (c := 0) (v := 0) rfl rfl rfl rfl dn.out.1 ⟨by rw [HY.out.1, HY.out.2.1]; rfl, by rw [HY.out.2.2.1, HY.out.2.2.2]; exact dn.out.2⟩
end Go.Proofs.Ytkfmcbhoendocaa
end

section
namespace Go.Proofs.Ytkfmcbhoendocaa
open Go Go.RowKit W M D A C P K
set_option linter.unusedVariables false
set_option linter.unusedSimpArgs false

theorem put_does : PutDoes := fun p most v n L k hk w h => rPut_tlb p most v n L k hk w h
/-- The document's row stands where rows of its two types stand. -/
theorem QT.rows {w w' : World} {p most : Nat} {v : Value} {n : Int} {L : List T.Lf} (h : QT w p most v n L) (h1 : ∀ g l, Row w g 73 l → Row w' g 73 l) (h2 : ∀ g l, Row w g 142 l → Row w' g 142 l) : QT w' p most v n L := by
  refine ⟨h1 _ _ h.ptr, ?_, h.fine, h.le, h.most, h.num⟩
  rcases h.sl with hs | ⟨g, o, cap, cur, a1, a2, a3, a4, a5, a6⟩
  · exact Or.inl hs
  · exact Or.inr ⟨g, o, cap, cur, a1, a2, a3, h2 _ _ a4, a5, a6⟩
/-- The program's row, kept under a step that writes to one row of another type. -/
theorem held_far {w w' : World} {B p most g : Nat} {v : Value} {n : Int} {L : List T.Lf} {t : TypeId} {l : List Value} (h : HAt w B p most v n L) (hr : Row w g t l) (h1 : 122 ≠ t) (h2 : t ≠ 135) (hg : w.grownBy w' (some g)) : HAt w' B p most v n L := by
  refine ⟨h.ptr.grown hg (some_ne (h.ptr.apart hr h1)), h.arr.keep hg ?_, h.fine, h.le, h.most, h.own, h.num⟩
  have hn := h.arr.ne hr h2
  rcases hq : v.ownBlock with _ | g'
  · exact .inl rfl
  · right
    rw [hq] at hn
    exact fun e => hn e.symm
theorem at_far {w w' : World} {T1 : TypeId} {p g g2 : Nat} {bs : List Int} {t : TypeId} {l : List Value} (h : At T1 5 w p g bs) (hr : Row w g2 t l) (h1 : T1 ≠ t) (h2 : 5 ≠ t) (hg : w.grownBy w' (some g2)) : At T1 5 w' p g bs :=
  ⟨h.ptr.grown hg (some_ne (h.ptr.apart hr h1)), h.row.grown hg (some_ne (h.row.apart hr h2)), h.byt, h.len⟩
structure Bg (w : World) (T0 : TypeId) (t : Nat) (l : List Value) (pm gm pm' gm' : Nat) (bs bs2 : List Int) (p u most : Nat) (n n2 : Int) (L L2 : List T.Lf) (wr : World) : Prop where
  opr : Row wr t T0 l
  mem : RAt wr pm gm bs
  mem2 : QAt wr pm' gm' bs2
  row : ∃ v, HAt wr w.heap.size p most v n L
  row2 : ∃ v, QT wr u most v n2 L2
  gr : w.grownBy wr none
  lo : w.heap.size ≤ u ∧ w.heap.size ≤ gm ∧ w.heap.size ≤ gm' ∧ gm ≠ gm'
section
variable {w wr ws : World} {T0 : TypeId} {t pm gm pm' gm' p u most : Nat} {l : List Value} {bs bs2 cs : List Int} {n n2 n' : Int} {L L2 L' : List T.Lf}
theorem Bg.keep (h : Bg w T0 t l pm gm pm' gm' bs bs2 p u most n n2 L L2 wr) (hg : wr.grownBy ws none) : Bg w T0 t l pm gm pm' gm' bs bs2 p u most n n2 L L2 ws :=
  ⟨h.opr.grown hg (by simp), h.mem.kept hg, h.mem2.kept hg, let ⟨v, hv⟩ := h.row; ⟨v, hv.kept hg⟩, let ⟨v, hv⟩ := h.row2; ⟨v, hv.kept hg⟩, gr_trans h.gr hg, h.lo⟩
/-- Another row of what is done. -/
theorem Bg.op {T1 : TypeId} {t1 : Nat} {l1 : List Value} (h : Bg w T0 t l pm gm pm' gm' bs bs2 p u most n n2 L L2 wr) (hr : Row wr t1 T1 l1) : Bg w T1 t1 l1 pm gm pm' gm' bs bs2 p u most n n2 L L2 wr := ⟨hr, h.mem, h.mem2, h.row, h.row2, h.gr, h.lo⟩
/-- The program's row has turned. -/
theorem Bg.one {v : Value} (h : Bg w T0 t l pm gm pm' gm' bs bs2 p u most n n2 L L2 wr) (hv : HAt wr w.heap.size p most v n L) (h1 : T0 ≠ 122) (h2 : T0 ≠ 135) (ht : Turned wr w.heap.size p most v n' L' ws) :
    Bg w T0 t l pm gm pm' gm' bs bs2 p u most n' n2 L' L2 ws := by
  obtain ⟨v', hh, -, hb⟩ := ht
  obtain ⟨v2, hv2⟩ := h.row2
  exact ⟨held_row hv hb h.opr h1 h2, held_ram hv hb h.mem, ⟨held_row hv hb h.mem2.ptr (by decide) (by decide), held_row hv hb h.mem2.row (by decide) (by decide), h.mem2.byt, h.mem2.len⟩, ⟨v', hh⟩,
    ⟨v2, hv2.rows (fun g l hr => held_row hv hb hr (by decide) (by decide)) (fun g l hr => held_row hv hb hr (by decide) (by decide))⟩, but_grown h.gr hv (Nat.le_refl _) hb, h.lo⟩
/-- The document's row has turned. -/
theorem Bg.two (h : Bg w T0 t l pm gm pm' gm' bs bs2 p u most n n2 L L2 wr) (h1 : T0 ≠ 73) (hr : ∃ v, QT ws u most v n' L') (hg : wr.grownBy ws (some u)) : Bg w T0 t l pm gm pm' gm' bs bs2 p u most n n' L L' ws := by
  obtain ⟨v2, hv2⟩ := h.row2
  obtain ⟨v, hv⟩ := h.row
  exact ⟨h.opr.grown hg (some_ne (h.opr.apart hv2.ptr h1)), at_far h.mem hv2.ptr (by decide) (by decide) hg, at_far h.mem2 hv2.ptr (by decide) (by decide) hg, ⟨v, held_far hv hv2.ptr (by decide) (by decide) hg⟩, hr, gr_row (gr_trans (gr_none h.gr _) hg) h.lo.1, h.lo⟩
/-- A number is written into the program's memory. -/
theorem Bg.put1 (h : Bg w T0 t l pm gm pm' gm' bs bs2 p u most n n2 L L2 wr) (h1 : T0 ≠ 5) (hm : RAt ws pm gm cs) (hg : wr.grownBy ws (some gm)) : Bg w T0 t l pm gm pm' gm' cs bs2 p u most n n2 L L2 ws := by
  obtain ⟨v2, hv2⟩ := h.row2
  obtain ⟨v, hv⟩ := h.row
  refine ⟨h.opr.grown hg (some_ne (h.opr.apart h.mem.row h1)), hm, ⟨h.mem2.ptr.grown hg (some_ne (h.mem2.ptr.apart h.mem.row (by decide))), h.mem2.row.grown hg (some_ne h.lo.2.2.2.symm), h.mem2.byt, h.mem2.len⟩, ⟨v, held_far hv h.mem.row (by decide) (by decide) hg⟩,
    ⟨v2, hv2.rows (fun g l hr => hr.grown hg (some_ne (hr.apart h.mem.row (by decide)))) (fun g l hr => hr.grown hg (some_ne (hr.apart h.mem.row (by decide))))⟩, gr_row (gr_trans (gr_none h.gr _) hg) h.lo.2.1, h.lo⟩
/-- And into the document's. -/
theorem Bg.put2 (h : Bg w T0 t l pm gm pm' gm' bs bs2 p u most n n2 L L2 wr) (h1 : T0 ≠ 5) (hm : QAt ws pm' gm' cs) (hg : wr.grownBy ws (some gm')) : Bg w T0 t l pm gm pm' gm' bs cs p u most n n2 L L2 ws := by
  obtain ⟨v2, hv2⟩ := h.row2
  obtain ⟨v, hv⟩ := h.row
  refine ⟨h.opr.grown hg (some_ne (h.opr.apart h.mem2.row h1)), ⟨h.mem.ptr.grown hg (some_ne (h.mem.ptr.apart h.mem2.row (by decide))), h.mem.row.grown hg (some_ne h.lo.2.2.2), h.mem.byt, h.mem.len⟩, hm, ⟨v, held_far hv h.mem2.row (by decide) (by decide) hg⟩,
    ⟨v2, hv2.rows (fun g l hr => hr.grown hg (some_ne (hr.apart h.mem2.row (by decide)))) (fun g l hr => hr.grown hg (some_ne (hr.apart h.mem2.row (by decide))))⟩, gr_row (gr_trans (gr_none h.gr _) hg) h.lo.2.2.1, h.lo⟩
/-- A clone stands in the row's place while the old row is turned. -/
structure Cl (w : World) (T0 : TypeId) (t : Nat) (l : List Value) (pm gm pm' gm' : Nat) (bs bs2 : List Int) (p q u most : Nat) (S N : Nat) (n m n2 : Int) (L M L2 : List T.Lf) (wr : World) : Prop where
  all : Bg w T0 t l pm gm pm' gm' bs bs2 q u most n n2 L L2 wr
  old : ∃ v, HAt wr w.heap.size p most v m M ∧ (∀ g, v.ownBlock = some g → g < S ∨ N ≤ g)
  cl : ∃ v, HAt wr S q most v n L ∧ (∀ g, v.ownBlock = some g → g < N)
  ord : p < S ∧ S ≤ q ∧ q < N ∧ w.heap.size ≤ S ∧ N ≤ wr.heap.size
theorem Bg.clone (h : Bg w T0 t l pm gm pm' gm' bs bs2 p u most n n2 L L2 wr) {q : Nat} {v' : Value} (hc : HAt ws wr.heap.size q most v' n L) (hg : wr.grownBy ws none) : Cl w T0 t l pm gm pm' gm' bs bs2 p q u most wr.heap.size ws.heap.size n n n2 L L L2 ws := by
  obtain ⟨v, hv⟩ := h.row
  have hk := h.keep hg
  have hs := h.gr.size
  refine ⟨⟨hk.opr, hk.mem, hk.mem2, ⟨v', held_less hc hs⟩, hk.row2, hk.gr, hk.lo⟩, ⟨v, hv.kept hg, fun g e => .inl (hv.arr.lt e).2⟩, ⟨v', hc, fun g e => (hc.arr.lt e).2⟩, hv.ptr.lt, hc.own, hc.ptr.lt, hs, Nat.le_refl _⟩
/-- The old row turns. -/
theorem Cl.turn {q S N : Nat} {m m' : Int} {M M' : List T.Lf} {v : Value} (h : Cl w T0 t l pm gm pm' gm' bs bs2 p q u most S N n m n2 L M L2 wr) (hv : HAt wr w.heap.size p most v m M) (hvo : ∀ g, v.ownBlock = some g → g < S ∨ N ≤ g) (h1 : T0 ≠ 122) (h2 : T0 ≠ 135) (ht : Turned wr w.heap.size p most v m' M' ws) :
    Cl w T0 t l pm gm pm' gm' bs bs2 p q u most S N n m' n2 L M' L2 ws := by
  obtain ⟨v1, hh, ho, hb⟩ := ht
  obtain ⟨v2, hv2⟩ := h.all.row2
  obtain ⟨vc, hc, hcn⟩ := h.cl
  obtain ⟨o1, o2, o3, o4, o5⟩ := h.ord
  have hc' : HAt ws S q most vc n L := hc.other (T' := 0) (E' := 0) (B' := 0) (m' := 0) (n' := 0) (L' := []) hb (by omega) (fun g e => ⟨by have := (hc.arr.lt e).1; omega, fun e2 => by
    have a1 := (hc.arr.lt e).1
    have a2 := hcn g e
    rcases hvo g e2 with a3 | a3 <;> omega⟩) (fun e => by
    rcases hvo q e.symm with a3 | a3 <;> omega)
  refine ⟨⟨held_row hv hb h.all.opr h1 h2, held_ram hv hb h.all.mem, ⟨held_row hv hb h.all.mem2.ptr (by decide) (by decide), held_row hv hb h.all.mem2.row (by decide) (by decide), h.all.mem2.byt, h.all.mem2.len⟩, ⟨vc, held_less hc' o4⟩,
    ⟨v2, hv2.rows (fun g l hr => held_row hv hb hr (by decide) (by decide)) (fun g l hr => held_row hv hb hr (by decide) (by decide))⟩, but_grown h.all.gr hv (Nat.le_refl _) hb, h.all.lo⟩, ⟨v1, hh, fun g e => ?_⟩, ⟨vc, hc', hcn⟩, o1, o2, o3, o4, Nat.le_trans o5 hb.size⟩
  rcases ho g e with a | a
  · exact hvo g a
  · exact .inr (by omega)
end
theorem and3i (b : Int) : bits .and .i64 b 3 = b % 4 := by
  show IntKind.i64.wrap ((BitVec.ofInt 64 b &&& BitVec.ofInt 64 3).toNat : Int) = _
  rw [BitVec.toNat_and, show (BitVec.ofInt 64 3).toNat = 2 ^ 2 - 1 from rfl, Nat.and_two_pow_sub_one_eq_mod, BitVec.toNat_ofInt, IntKind.wrap_i64]
  rw [show (2 : Nat) ^ 64 = 18446744073709551616 from rfl]
  omega
theorem leaf_c (pt lv : Int) (gb : Bool) (w : World) : Calls Try.prog 27 #[.agg #[.int .u64 pt, .int .i64 lv, .bool gb]] w fun e w' => e = .returned (.agg #[.int .u64 pt, .int .i64 (lv % 4 % 3), .bool gb]) ∧ w.grownBy w' none := by
  have h3 := and3i lv
  have hb : 0 ≤ lv % 4 ∧ lv % 4 < 4 := by omega
  generalize lv % 4 = m at *
  go_enter Try.func27, Try.ntmps27
  go_wp2_with fail
  have hR := fresh_two w (.cells #[.int .u64 pt, .int .i64 (m % 3), .bool gb] 52) 52 [.int .u64 pt, .int .i64 (m % 3), .bool gb]
  exact bodyPost_ret (results_cell_row rfl _ _ (w.heap.size + 1) _ #[.int .u64 pt, .int .i64 (m % 3), .bool gb] (0, 0) _ rfl hR Try.underlying52 rfl (by kernel_rfl)) rfl ⟨rfl, gr_alloc (gr_alloc (gr_refl _ _) _) _⟩
theorem rNew_tlb (most : Int) (hm : I64 most) (w : World) :
    Calls Try.prog 25 #[.int .i64 most] w fun e w' => e = .returned (.pointer (some ⟨w.heap.size, 0, none⟩)) ∧ QT w' w.heap.size (T.mostV most) (.slice none 0 0) 0 [] ∧ w.grownBy w' none := by
  unfold I64 at hm
  have hr := Lib.hid (fun x : Int => Row.fresh w 73 [.int .i64 x, .slice none 0 0, .int .u64 0])
  have hx : ((T.mostV most : Nat) : Int) = min (max most 0) 8 := by unfold T.mostV; omega
  have HX := Lib.hid hx
  clear hx
  go_enter Try.func25, Try.ntmps25
  go_wp2_with fail
  all_goals go_ret
  all_goals refine ⟨rfl, ⟨?_, Or.inl ⟨rfl, rfl⟩, fun k hk => (by cases hk), Nat.zero_le _, T.most_le most, (by decide)⟩, gr_alloc (gr_refl _ _) _⟩
  all_goals rw [HX.out]
  all_goals first
    | (rw [show min (max most 0) 8 = most by omega]; exact hr.out _)
    | (rw [show min (max most 0) 8 = 0 by omega]; exact hr.out _)
    | (rw [show min (max most 0) 8 = 8 by omega]; exact hr.out _)
end Go.Proofs.Ytkfmcbhoendocaa
end
