/-
  The document's own row of leaves (package suzerainref12) in memory; what a leaf covers; which leaf is found: contracts over the translation.
  Conditions: the arguments are numbers of their kinds; the row stands.
-/
import Derived.Test.YtkfmcbhoendocaaTlbF
import Derived.Test.YtkfmcbhoendocaaTlbB
import Derived.Deep.Cut
import Derived.Deep.CutBlock
import Derived.Deep.QuietTactic
import Derived.BigQuiet
namespace Go.Proofs.Ytkfmcbhoendocaa
open Go Go.RowKit W M D A C P K
set_option linter.unusedVariables false
set_option linter.unusedSimpArgs false

/-! ### The row in memory -/
/-- The slice shows the leaves: nil and none, or a part of a row, from element o on. -/
def Sl (w : World) (v : Value) (L : List T.Lf) : Prop :=
  (v = .slice none 0 0 ∧ L = []) ∨ ∃ g o cap cur, v = .slice (some ⟨g, o * 5, none⟩) L.length cap ∧ L.length ≤ cap ∧ cap ≤ maxLen ∧ Row w g 142 cur ∧ cur.length = (o + cap) * 5 ∧ (cur.drop (o * 5)).take (L.length * 5) = T.flat L
/-- The struct behind its pointer. -/
structure QT (w : World) (p most : Nat) (v : Value) (n : Int) (L : List T.Lf) : Prop where
  ptr : Row w p 73 [.int .i64 most, v, .int .u64 n]
  sl : Sl w v L
  fine : ∀ k ∈ L, T.Fine k
  le : L.length ≤ most
  most : most ≤ 8
  num : B64 n
section
variable {w w' : World} {p most : Nat} {v : Value} {n : Int} {L : List T.Lf}
theorem Sl.keep {row : Option Nat} (h : Sl w v L) (hg : w.grownBy w' row) (hn : ∀ g l, row = some g → ¬ Row w g 142 l) : Sl w' v L := by
  rcases h with h | ⟨g, o, cap, cur, h1, h2, h3, h4, h5, h6⟩
  · exact Or.inl h
  · refine Or.inr ⟨g, o, cap, cur, h1, h2, h3, h4.grown hg (fun e => hn g cur e.symm h4), h5, h6⟩
theorem Sl.kept (h : Sl w v L) (hg : w.grownBy w' none) : Sl w' v L := h.keep hg (fun _ _ e => by cases e)
theorem QT.kept (h : QT w p most v n L) (hg : w.grownBy w' none) : QT w' p most v n L := ⟨h.ptr.grown hg (by simp), h.sl.kept hg, h.fine, h.le, h.most, h.num⟩
theorem QT.c0 (h : QT w p most v n L) : w.cell? ⟨p, 0, none⟩ = some (.int .i64 most) := by rw [h.ptr.cell]; rfl
theorem QT.c1 (h : QT w p most v n L) : w.cell? ⟨p, 1, none⟩ = some v := by rw [h.ptr.cell]; rfl
theorem QT.c2 (h : QT w p most v n L) : w.cell? ⟨p, 2, none⟩ = some (.int .u64 n) := by rw [h.ptr.cell]; rfl
/-- The struct is another one now. -/
theorem QT.put {v' : Value} {L' : List T.Lf} (h : QT w p most v n L) (hs : Sl w v' L') (hf : ∀ k ∈ L', T.Fine k) (hl : L'.length ≤ most) : QT (w.setCell ⟨p, 1, none⟩ v') p most v' n L' := by
  refine ⟨h.ptr.put 1 v', hs.keep (gr_set (gr_refl w (some p)) v') (fun g l e hr => ?_), hf, hl, h.most, h.num⟩
  injection e with e
  subst e
  exact (h.ptr.apart hr (by decide)) rfl
theorem QT.miss (h : QT w p most v n L) {x : Int} (hx : B64 x) : QT (w.setCell ⟨p, 2, none⟩ (.int .u64 x)) p most v x L := by
  refine ⟨h.ptr.put 2 (.int .u64 x), h.sl.keep (gr_set (gr_refl w (some p)) _) (fun g l e hr => ?_), h.fine, h.le, h.most, hx⟩
  injection e with e
  subst e
  exact (h.ptr.apart hr (by decide)) rfl
/-- Where an element lies. -/
theorem Sl.at_ (h : Sl w v L) {i : Nat} (hi : i < L.length) : ∃ g o cap k, v = .slice (some ⟨g, o * 5, none⟩) L.length cap ∧ g < w.heap.size ∧ L[i]? = some k ∧ ∀ c, c < 5 → w.cell? ⟨g, o * 5 + i * 5 + c, none⟩ = (T.cellsT k)[c]? := by
  rcases h with ⟨-, rfl⟩ | ⟨g, o, cap, cur, h1, h2, h3, h4, h5, h6⟩
  · exact absurd hi (by simp)
  · refine ⟨g, o, cap, L[i], h1, h4.lt, List.getElem?_eq_getElem hi, fun c hc => ?_⟩
    rw [h4.cell, ← T.flat_get (List.getElem?_eq_getElem hi) hc, ← h6, List.getElem?_take_of_lt (by omega), List.getElem?_drop]
    congr 1
    omega
theorem Sl.shape (h : Sl w v L) : v = .slice none 0 0 ∨ ∃ g o m cap, v = .slice (some ⟨g, o, none⟩) m cap := by
  rcases h with ⟨h, -⟩ | ⟨g, o, cap, cur, h1, -⟩
  · exact Or.inl h
  · exact Or.inr ⟨g, o * 5, _, cap, h1⟩
theorem Sl.len (h : Sl w v L) : ∃ A cap, v = .slice A L.length cap ∧ L.length ≤ cap := by
  rcases h with ⟨h, rfl⟩ | ⟨g, o, cap, cur, h1, h2, -⟩
  · exact ⟨none, 0, h, Nat.le_refl _⟩
  · exact ⟨_, cap, h1, h2⟩
end

/-! ### What a leaf covers -/
def szL (l : Nat) : Nat := 12 + 9 * l
set_option maxHeartbeats 1000000 in
theorem rcovers_c (k : T.Lf) (hk : T.Fine k) (a : Int) (ha : B64 a) (w : World) :
    Calls Try.prog 72 #[T.vT k, .int .u64 a] w fun e w' => e = .returned (.bool (T.covT k a)) ∧ w.grownBy w' none := by
  have HR := Row.fresh w 142 (T.cellsT k)
  have G := Lib.hid (gr_alloc (gr_refl w none) (.cells (T.cellsT k).toArray 142))
  obtain ⟨va, asid, pte, lev, glob⟩ := k
  obtain ⟨h1, h2, h3, h4, h5⟩ := hk
  simp only at h1 h2 h3 h4 h5
  unfold T.covT T.vT
  unfold T.cellsT at HR G
  simp only at HR G ⊢
  unfold B64 at *
  have m0 : (w.alloc (.cells #[.int .u64 va, .int .u64 asid, .int .u64 pte, .int .i64 lev, .bool glob] 142)).cell? ⟨w.heap.size, 0, none⟩ = some (.int .u64 va) := HR.cell 0
  have m3 : (w.alloc (.cells #[.int .u64 va, .int .u64 asid, .int .u64 pte, .int .i64 lev, .bool glob] 142)).cell? ⟨w.heap.size, 3, none⟩ = some (.int .i64 lev) := HR.cell 3
  obtain rfl | rfl | rfl : lev = 0 ∨ lev = 1 ∨ lev = 2 := by omega
  all_goals
    go_enter Try.func72, Try.ntmps72
    go_wp2_with fail
    go_quiet (fail)
    go_wp2_with fail
    go_ret
    exact ⟨tret_boo (by rw [beq_int]; rfl), gr_drewN G.out _⟩

/-! ### Which leaf is found -/
def zF : List Value := [.int .u64 0, .int .i64 0, .bool false]
theorem find_step {L : List T.Lf} {j : Nat} {k : T.Lf} (a s : Int) (h : L[j]? = some k) : T.findT (L.drop j) a s = if T.keyT a s k = true then some k else T.findT (L.drop (j + 1)) a s := by
  have hj := (List.getElem?_eq_some_iff.1 h).1
  rw [List.drop_eq_getElem_cons hj, show L[j] = k from by rw [List.getElem?_eq_getElem hj] at h; injection h]
  unfold T.findT
  rw [List.find?_cons]
  cases T.keyT a s k <;> rfl
set_option maxRecDepth 100000 in
set_option maxHeartbeats 4000000 in
theorem rFind_c (p most : Nat) (v : Value) (n : Int) (L : List T.Lf) (a s : Int) (ha : B64 a) (hs : B64 s) (w : World) (h : QT w p most v n L) :
    Calls Try.prog 26 #[.pointer (some ⟨p, 0, none⟩), .int .u64 a, .int .u64 s] w fun e w' => e = .returned (.tuple #[vGot (T.findT L a s), .bool (T.findT L a s).isSome]) ∧ w.grownBy w' none := by
  have G0 := gr_alloc (gr_refl w none) (.cells #[.int .u64 0, .int .i64 0, .bool false] 52)
  have HQ := Lib.hid (h.kept G0)
  have HZ := Lib.hid (Row.fresh w 52 [.int .u64 0, .int .i64 0, .bool false])
  have HG := Lib.hid G0
  have HF := Lib.hid h.fine
  have hl8 : L.length ≤ 8 := Nat.le_trans h.le h.most
  obtain ⟨A, cap, rfl, hcap⟩ := h.sl.len
  clear h G0
  unfold B64 at hs
  obtain ⟨F, hF⟩ : ∃ F, T.findT L a s = F := ⟨_, rfl⟩
  rw [hF]
  have HFF := Lib.hid hF
  clear hF
  go_enter Try.func26, Try.ntmps26
  obtain ⟨q, hq⟩ : ∃ q, w.heap.size = q := ⟨_, rfl⟩
  have HS := Lib.hid hq
  go_wp2_with fail
  rw [hq] at HZ
  clear hq
  generalize w.alloc (.cells #[.int .u64 0, .int .i64 0, .bool false] 52) = V at *
  go_loopw [8] (fun i wr => ∃ j : Nat, i = .int .i64 j ∧ j ≤ L.length ∧ Row wr q 52 [.int .u64 0, .int .i64 0, .bool false] ∧ QT wr p most (.slice A L.length cap) n L ∧ w.grownBy wr none ∧ T.findT (L.drop j) a s = F) (fun i _ => 8 - (intOf i).toNat)
  case atStart => exact ⟨0, rfl, Nat.zero_le _, HZ.out, HQ.out, HG.out, HFF.out⟩
  case round =>
    clear HZ HQ HG HFF
    obtain ⟨j, rfl, hj, hZ, hQ, hG, hF⟩ := hrel
    have c1 := hQ.c1
    have lp := hQ.ptr.lt
    by_cases hlt : j < L.length
    · obtain ⟨g, o, cap', k, hv, hg, hk, hc⟩ := hQ.sl.at_ hlt
      injection hv with hA _ hcp
      subst hA hcp
      have hkf := HF.out k (List.mem_of_getElem? hk)
      have CV := Lib.hid (fun W => rcovers_c k hkf a ha W)
      have hs2 := find_step a s hk
      rw [hF] at hs2
      unfold T.keyT at hs2
      obtain ⟨va, asid, pte, lev, glob⟩ := k
      obtain ⟨h1, h2, h3, h4, h5⟩ := hkf
      simp only at h1 h2 h3 h4 h5 hs2
      unfold T.vT at CV
      simp only at CV
      have HS2 := Lib.hid hs2
      obtain ⟨f, hf⟩ : ∃ f, f = o * 5 := ⟨_, rfl⟩
      rw [← hf] at hc c1
      have Hf := Lib.hid hf
      have u0 := hc 0 (by omega)
      have u1 := hc 1 (by omega)
      have u2 := hc 2 (by omega)
      have u3 := hc 3 (by omega)
      have u4 := hc 4 (by omega)
      unfold T.cellsT at u0 u1 u2 u3 u4
      simp only [List.getElem?_cons_zero, List.getElem?_cons_succ, Nat.add_zero] at u0 u1 u2 u3 u4
      have HR := Lib.hid (And.intro hZ (And.intro hQ hG))
      clear hc hZ hQ hG hF hs2 hk hf hcap
      go_upto_region 5 with (fail)
      have hA := gr_alloc (gr_refl wr none) (.cells #[.int .u64 va, .int .u64 asid, .int .u64 pte, .int .i64 lev, .bool glob] 142)
      have hT := Row.fresh wr 142 [.int .u64 va, .int .u64 asid, .int .u64 pte, .int .i64 lev, .bool glob]
      replace hT : Row (wr.alloc (.cells #[.int .u64 va, .int .u64 asid, .int .u64 pte, .int .i64 lev, .bool glob] 142)) wr.heap.size 142 [.int .u64 va, .int .u64 asid, .int .u64 pte, .int .i64 lev, .bool glob] := hT
      have H4 := Lib.hid (And.intro (HR.out.1.grown hA (by simp)) (And.intro (HR.out.2.1.kept hA) (gr_trans HR.out.2.2 hA)))
      have HT := Lib.hid hT
      clear hA HR u0 u1 u2 u3 u4 hg c1 lp
      generalize wr.alloc (.cells #[.int .u64 va, .int .u64 asid, .int .u64 pte, .int .i64 lev, .bool glob] 142) = V2 at *
      generalize wr.heap.size = tb at *
      have n0 := hT.cell 0
      have n1 := hT.cell 1
      have n2 := hT.cell 2
      have n3 := hT.cell 3
      have n4 := hT.cell 4
      simp only [List.getElem?_cons_zero, List.getElem?_cons_succ] at n0 n1 n2 n3 n4
      clear hT
      go_wp2_with fail
      refine (CV.out _).mono ?_
      rintro e w5 ⟨rfl, hG⟩
      have hT := HT.out.grown hG (by simp)
      have H5 := Lib.hid (And.intro (H4.out.1.grown hG (by simp)) (And.intro (H4.out.2.1.kept hG) (gr_trans H4.out.2.2 hG)))
      clear hG H4 HT CV n0 n1 n2 n3 n4
      have n0 := hT.cell 0
      have n1 := hT.cell 1
      have n2 := hT.cell 2
      have n3 := hT.cell 3
      have n4 := hT.cell 4
      simp only [List.getElem?_cons_zero, List.getElem?_cons_succ] at n0 n1 n2 n3 n4
      have lt := hT.lt
      have z0 := H5.out.1.cell 0
      have z1 := H5.out.1.cell 1
      have z2 := H5.out.1.cell 2
      simp only [List.getElem?_cons_zero, List.getElem?_cons_succ] at z0 z1 z2
      have zl := H5.out.1.lt
      have zf := H5.out.1.free
      clear hT
      generalize T.covT ⟨va, asid, pte, lev, glob⟩ a = cv at *
      cases cv
      · skip
        have e0 := HS2.out
        simp only [Bool.false_and, Bool.and_false, Bool.true_and, Bool.false_or, Bool.or_false, decide_false, Bool.false_eq_true, if_false] at e0
        have E0 := Lib.hid e0
        clear e0
        go_wp2_with fail
        go_roundw
        case rel => exact ⟨j + 1, by go_num, by omega, H5.out.1, H5.out.2.1, H5.out.2.2, E0.out.symm⟩
        case measure => simp [intOf]; omega
      · cases glob
        · by_cases he : asid = s
          · have d : (asid == s) = true := by simp [he]
            have R7 : Row (((w5.setCell ⟨q, 0, none⟩ (.int .u64 pte)).setCell ⟨q, 1, none⟩ (.int .i64 lev)).setCell ⟨q, 2, none⟩ (.bool false)) q 52 [.int .u64 pte, .int .i64 lev, .bool false] := ((H5.out.1.put 0 (.int .u64 pte)).put 1 (.int .i64 lev)).put 2 (.bool false)
            have G7 : w.grownBy (((w5.setCell ⟨q, 0, none⟩ (.int .u64 pte)).setCell ⟨q, 1, none⟩ (.int .i64 lev)).setCell ⟨q, 2, none⟩ (.bool false)) none := gr_row (gr_set (gr_set (gr_set (gr_none H5.out.2.2 (some q)) _) _) _) (Nat.le_of_eq HS.out)
            go_wp2_with fail
            have e0 := HS2.out
            simp only [he, Bool.true_and, Bool.and_true, Bool.true_or, Bool.or_true, decide_true, if_true] at e0
            exact ret_LB rfl rfl rfl rfl R7 ⟨by rw [e0]; rfl, G7⟩
          · have d : (asid == s) = false := by simp [he]
            have e0 := HS2.out
            simp only [he, Bool.false_and, Bool.and_false, Bool.true_and, Bool.false_or, Bool.or_false, decide_false, Bool.false_eq_true, if_false] at e0
            have E0 := Lib.hid e0
            clear e0
            go_wp2_with fail
            go_roundw
            case rel => exact ⟨j + 1, by go_num, by omega, H5.out.1, H5.out.2.1, H5.out.2.2, E0.out.symm⟩
            case measure => simp [intOf]; omega
        · skip
          have R7 : Row (((w5.setCell ⟨q, 0, none⟩ (.int .u64 pte)).setCell ⟨q, 1, none⟩ (.int .i64 lev)).setCell ⟨q, 2, none⟩ (.bool true)) q 52 [.int .u64 pte, .int .i64 lev, .bool true] := ((H5.out.1.put 0 (.int .u64 pte)).put 1 (.int .i64 lev)).put 2 (.bool true)
          have G7 : w.grownBy (((w5.setCell ⟨q, 0, none⟩ (.int .u64 pte)).setCell ⟨q, 1, none⟩ (.int .i64 lev)).setCell ⟨q, 2, none⟩ (.bool true)) none := gr_row (gr_set (gr_set (gr_set (gr_none H5.out.2.2 (some q)) _) _) _) (Nat.le_of_eq HS.out)
          go_wp2_with fail
          have e0 := HS2.out
          simp only [Bool.true_and, Bool.and_true, Bool.true_or, Bool.or_true, decide_true, if_true] at e0
          exact ret_LB rfl rfl rfl rfl R7 ⟨by rw [e0]; rfl, G7⟩
    · obtain rfl : j = L.length := by omega
      have e0 : F = none := by rw [← hF, List.drop_length]; rfl
      have E0 := Lib.hid e0
      have z0 := hZ.cell 0
      have z1 := hZ.cell 1
      have z2 := hZ.cell 2
      simp only [List.getElem?_cons_zero, List.getElem?_cons_succ] at z0 z1 z2
      have zl := hZ.lt
      have zf := hZ.free
      have R7 : Row (((wr.setCell ⟨q, 0, none⟩ (.int .u64 0)).setCell ⟨q, 1, none⟩ (.int .i64 0)).setCell ⟨q, 2, none⟩ (.bool false)) q 52 [.int .u64 0, .int .i64 0, .bool false] := ((hZ.put 0 (.int .u64 0)).put 1 (.int .i64 0)).put 2 (.bool false)
      have G7 : w.grownBy (((wr.setCell ⟨q, 0, none⟩ (.int .u64 0)).setCell ⟨q, 1, none⟩ (.int .i64 0)).setCell ⟨q, 2, none⟩ (.bool false)) none := gr_row (gr_set (gr_set (gr_set (gr_none hG (some q)) _) _) _) (Nat.le_of_eq HS.out)
      clear hZ hQ hG hF e0
      go_wp2_with fail
      exact ret_LB rfl rfl rfl rfl R7 ⟨by rw [E0.out]; rfl, G7⟩
end Go.Proofs.Ytkfmcbhoendocaa
