/-
  A new row of leaves (New), the number of walks (Misses), a row of its own (Clone): contracts over the program's translation.
  Conditions: the row stands behind its pointer; the arguments are numbers of their kinds.
-/
import Derived.Test.YtkfmcbhoendocaaTlbD
import Derived.Laws.LoneSync
import Derived.Deep.RegionHeld3
import Derived.StillTailTactics
namespace Go.Proofs.Ytkfmcbhoendocaa
open Go Go.RowKit W M D A C P K
set_option linter.unusedVariables false
set_option linter.unusedSimpArgs false

theorem infoKA : (Try.prog.info? 135).map (fun i => (i.zero, i.size, i.bytes)) = some (some (.agg #[.int .u64 0, .int .u64 0, .int .u64 0, .int .i64 0, .bool false]), 5, 40) := by kernel_rfl
abbrev missT := T.missT
theorem miss_64 (n : Int) : B64 (missT n) := by unfold missT T.missT B64; omega
theorem aload_c (p : Nat) (x : Int) (w : World) (hc : w.cell? ⟨p, 2, none⟩ = some (.int .u64 x)) :
    Calls Try.prog 65 #[.pointer (some ⟨p, 2, none⟩)] w fun e w' => e = .returned (.int .u64 x) ∧ w = w' := by
  have hd := run_call_load (P := Try.prog) Try.func103 (by kernel_rfl) (by kernel_rfl) (by kernel_rfl) .u64 (by kernel_rfl) hc
  go_enter Try.func65, Try.ntmps65
  go_wp2_with fail
  go_ret
  exact ⟨rfl, rfl⟩
theorem astore_c (p : Nat) (x y : Int) (w : World) (hc : w.cell? ⟨p, 2, none⟩ = some (.int .u64 x)) (hz : w.frozen? ⟨p, 2, none⟩ = false) :
    Calls Try.prog 64 #[.pointer (some ⟨p, 2, none⟩), .int .u64 y] w fun e w' => e = .returned (.tuple #[]) ∧ w' = w.setCell ⟨p, 2, none⟩ (.int .u64 y) := by
  have hd := run_call_store (P := Try.prog) Try.func102 (by kernel_rfl) (by kernel_rfl) (by kernel_rfl) (by kernel_rfl) (k := .u64) (y := y) hc hz
  go_enter Try.func64, Try.ntmps64
  go_wp2_with fail
  first | go_end0 | refine bodyPost_ret (results_none rfl _ _ _) rfl ?_
  exact ⟨rfl, rfl⟩
theorem aadd_c (p : Nat) (x : Int) (w : World) (hc : w.cell? ⟨p, 2, none⟩ = some (.int .u64 x)) (hz : w.frozen? ⟨p, 2, none⟩ = false) :
    Calls Try.prog 57 #[.pointer (some ⟨p, 2, none⟩), .int .u64 1] w fun e w' => e = .returned (.int .u64 (missT x)) ∧ w' = w.setCell ⟨p, 2, none⟩ (.int .u64 (missT x)) := by
  have hd := run_call_add (P := Try.prog) Try.func95 (by kernel_rfl) (by kernel_rfl) (by kernel_rfl) .u64 (by kernel_rfl) (y := 1) (s := missT x) hc hz (by
    have e : IntKind.u64.wrap (x + 1) = missT x := u64_eq _
    simp [go_sem, e])
  go_enter Try.func57, Try.ntmps57
  go_wp2_with fail
  go_ret
  exact ⟨rfl, rfl⟩
theorem Misses_c (B p most : Nat) (v : Value) (n : Int) (L : List T.Lf) (w : World) (h : HAt w B p most v n L) :
    Calls Try.prog 32 #[.pointer (some ⟨p, 0, none⟩)] w fun e w' => e = .returned (.int .u64 n) ∧ w = w' := by
  have c2 := h.c2
  have AL := Lib.hid (fun W hc => aload_c p n W hc)
  clear h
  go_enter Try.func32, Try.ntmps32
  go_wp2_with fail
  refine (AL.out _ c2).mono ?_
  rintro e w' ⟨rfl, rfl⟩
  go_wp2_with fail
  go_ret
  exact ⟨rfl, rfl⟩
theorem new_fin (w : World) (m : Nat) (x : Int) (hx : x = m) (h8 : m ≤ 8) : HAt (w.alloc (.cells #[.int .i64 x, .slice none 0 0, .int .u64 0] 122)) w.heap.size w.heap.size m (.slice none 0 0) 0 [] := by
  subst hx
  exact ⟨Row.fresh w 122 [.int .i64 m, .slice none 0 0, .int .u64 0], T.Arr.nil _ _ _, fun k hk => (by cases hk), Nat.zero_le _, h8, Nat.le_refl _, (by unfold B64; omega)⟩
theorem TNew_c (most : Int) (hm : I64 most) (w : World) :
    Calls Try.prog 14 #[.int .i64 most] w fun e w' => e = .returned (.pointer (some ⟨w.heap.size, 0, none⟩)) ∧ HAt w' w.heap.size w.heap.size (T.mostV most) (.slice none 0 0) 0 [] ∧ w.grownBy w' none := by
  unfold I64 at hm
  go_enter Try.func14, Try.ntmps14
  go_wp2_with fail
  all_goals go_ret
  all_goals exact ⟨rfl, new_fin w _ _ (by unfold T.mostV; omega) (T.most_le _), gr_alloc (gr_refl _ _) _⟩

/-- A row of its own, with the same leaves. -/
def Copied (w : World) (L : List T.Lf) (e : Ending) (w' : World) : Prop :=
  ∃ A m c, e = .returned (.slice A m c) ∧ T.Arr 135 w' w.heap.size (.slice A m c) L ∧ w.grownBy w' none
set_option maxRecDepth 100000 in
set_option maxHeartbeats 2000000 in
theorem sclone_c (B : Nat) (v : Value) (L : List T.Lf) (hl : L.length ≤ 8) (w : World) (h : T.Arr 135 w B v L) :
    Calls Try.prog 63 #[v] w (Copied w L) := by
  rcases h.parts with ⟨rfl, rfl⟩ | ⟨g, cap, cur, rfl, hB, hLd⟩
  · have hq := Go.Lib.run_eql_slice_nil (P := Try.prog) w 115 135 none 0 0 0 0 Try.underlying115
    simp only [Option.isNone_none] at hq
    go_enter Try.func63, Try.ntmps63
    go_wp2_with fail
    go_ret
    exact ⟨_, _, _, rfl, T.Arr.nil _ _ _, gr_refl _ _⟩
  · obtain ⟨i0, hi0, hz0, hs0, hb0⟩ := info_parts infoKA
    have hq := Go.Lib.run_eql_slice_nil (P := Try.prog) w 115 135 (some ⟨g, 0, none⟩) L.length cap 0 0 Try.underlying115
    simp only [Option.isNone_some] at hq
    have hown : (w.alloc (.cells #[] 135)).ownsRow w.heap.size 135 5 (.slice (some ⟨w.heap.size, 0, none⟩) 0 0) 0 [] := World.ownsRow_made w #[] 0 (Nat.le_refl _) (by unfold maxLen; omega) rfl
    have HC := Lib.hid (show ∀ j u, (T.flat L)[j]? = some u → (w.alloc (.cells #[] 135)).cell? ((⟨g, 0, none⟩ : Addr).add j) = some u from fun j u hj => by
      have hjl := (List.getElem?_eq_some_iff.1 hj).1
      rw [T.flat_length] at hjl
      rw [addr_add, Nat.zero_add, (hLd.row.alloc _).cell, ← hj, ← hLd.tk, List.getElem?_take_of_lt hjl])
    have hsz : (w.alloc (.cells #[] 135)).heap.size = w.heap.size + 1 := Array.size_push ..
    have HZ := Lib.hid (show w.heap.size ≤ (w.alloc (.cells #[] 135)).heap.size by omega)
    have HO := Lib.hid hown
    have HI := Lib.hid (And.intro hi0 (And.intro hz0 (And.intro hs0 hb0)))
    clear hown hsz hi0 hz0 hs0 hb0 hLd h
    go_enter Try.func63, Try.ntmps63
    go_wp2_with (at_builtin; refine wpList_append_own _ rfl (.tmp 5) (.tmp 6) 115 rfl w.heap.size 135 i0 _ 5 40 Try.underlying115 HI.out.1 HI.out.2.1 HI.out.2.2.1 HI.out.2.2.2 rfl (by decide) (.slice (some ⟨w.heap.size, 0, none⟩) 0 0) 0 [] rfl HO.out ⟨g, 0, none⟩ L.length cap (T.flat L) rfl (T.flat_length L) HC.out (T.flat_one L) (by unfold maxLen; omega) (by omega) HZ.out ?_; intro v3 w3 hown3 hgr3 hnil3; clear hnil3)
    rw [Nat.zero_add, List.nil_append] at hown3
    obtain rfl | ⟨g', n', c', rfl⟩ := T.Arr.shape (show T.Arr 135 w3 w.heap.size v3 L from hown3)
    · go_ret
      exact ⟨_, _, _, rfl, hown3, gr_row (gr_trans (gr_alloc (gr_refl w _) _) hgr3) (Nat.le_refl _)⟩
    · go_ret
      exact ⟨_, _, _, rfl, hown3, gr_row (gr_trans (gr_alloc (gr_refl w _) _) hgr3) (Nat.le_refl _)⟩
theorem clone_on {w w1 w2 : World} {B p most : Nat} {v : Value} {n : Int} {L : List T.Lf} (hg : w1.grownBy w2 none) (h : w1.cell? ⟨p, 0, none⟩ = some (.int .i64 most) ∧ w1.cell? ⟨p, 1, none⟩ = some v ∧ HAt w1 B p most v n L ∧ w.grownBy w1 none) :
    w2.cell? ⟨p, 0, none⟩ = some (.int .i64 most) ∧ w2.cell? ⟨p, 1, none⟩ = some v ∧ HAt w2 B p most v n L ∧ w.grownBy w2 none :=
  ⟨(h.2.2.1.kept hg).c0, (h.2.2.1.kept hg).c1, h.2.2.1.kept hg, gr_trans h.2.2.2 hg⟩
/-- A clone of its own. -/
def TCloned (w : World) (most : Nat) (n : Int) (L : List T.Lf) (e : Ending) (w' : World) : Prop :=
  ∃ p' v', e = .returned (.pointer (some ⟨p', 0, none⟩)) ∧ HAt w' w.heap.size p' most v' n L ∧ w.grownBy w' none
set_option maxRecDepth 100000 in
set_option maxHeartbeats 4000000 in
theorem TClone_c (B p most : Nat) (v : Value) (n : Int) (L : List T.Lf) (w : World) (h : HAt w B p most v n L) :
    Calls Try.prog 17 #[.pointer (some ⟨p, 0, none⟩)] w (TCloned w most n L) := by
  have c0 := h.c0
  have c1 := h.c1
  have lp := h.ptr.lt
  have hle := h.le
  have hm8 := h.most
  have CL := Lib.hid (fun W hA => sclone_c B v L (by omega) W hA)
  have HH := Lib.hid h
  clear h
  go_enter Try.func17, Try.ntmps17
  go_wp2_with fail
  have hS0 : w.cell? ⟨p, 0, none⟩ = some (.int .i64 most) ∧ w.cell? ⟨p, 1, none⟩ = some v ∧ HAt w B p most v n L ∧ w.grownBy w none := ⟨c0, c1, HH.out, gr_refl _ _⟩
  clear c0 c1
  go_region_held3 (fun w' => w'.cell? ⟨p, 0, none⟩ = some (.int .i64 most) ∧ w'.cell? ⟨p, 1, none⟩ = some v ∧ HAt w' B p most v n L ∧ w.grownBy w' none)
    (first | assumption | (exact clone_on (gr_drew (gr_refl _ none)) (by assumption)) | (exact clone_on (by assumption) (by assumption)) | (exact clone_on (gr_alloc (gr_refl _ none) _) (by assumption)))
    (first | (go_at_call 63; refine (CL.out _ (T.Held.arr (And.left (And.right (And.right (by assumption)))))).mono ?_; rintro e w1 ⟨A', m', c', rfl, hA, hg⟩; have HA := Lib.hid hA; clear hA))
  rename_i hHeld
  obtain ⟨-, -, hH2, hG2⟩ := hHeld
  have hR := Row.fresh w1 122 [.int .i64 most, .slice A' m' c', .int .u64 0]
  have hA2 := HA.out.kept (gr_alloc (gr_refl w1 none) (.cells #[.int .i64 most, .slice A' m' c', .int .u64 0] 122))
  have hge : w.heap.size ≤ w1.heap.size := by
    have := hg.size
    exact this
  clear hg HA
  generalize w1.alloc (.cells #[.int .i64 most, .slice A' m' c', .int .u64 0] 122) = U at *
  generalize w1.heap.size = q at *
  have c2 := hH2.c2
  have lp2 := hH2.ptr.lt
  have lq := hR.lt
  have AL := Lib.hid (fun W hc => aload_c p n W hc)
  have AS := Lib.hid (fun W hc hz => astore_c q 0 n W hc hz)
  have HF := Lib.hid (And.intro hR (And.intro hA2 (And.intro hH2 hG2)))
  clear hR hA2 hH2 hG2
  go_wp2_with fail
  refine wp_region_still_tail 7 (by kernel_rfl) (by kernel_rfl) ?_
  simp only [List.take_succ_cons, List.take_zero, List.drop_succ_cons, List.drop_zero]
  change wpStill Try.prog _ (World.drew U) _ _ _
  repeat still_step
  still_call ((AL.out _ (by exact c2)).mono fun _ _ h => ⟨h.1, h.2.symm⟩)
  refine wpStill_nil ?_
  change wpList _ _ _ _ _ (World.drew _)
  go_wp2_with fail
  refine (AS.out _ (by exact HF.out.1.cell 2) (by exact HF.out.1.free 2)).mono ?_
  rintro e w' ⟨rfl, rfl⟩
  have hpq : p ≠ q := by have := HH.out.ptr.lt; omega
  have hn64 := HH.out.num
  have r2 : Row (U.drew.setCell ⟨q, 2, none⟩ (.int .u64 n)) q 122 [.int .i64 most, .slice A' m' c', .int .u64 n] := Row.put (show Row U.drew q _ _ from HF.out.1) 2 (.int .u64 n)
  have ha2 : T.Arr 135 (U.drew.setCell ⟨q, 2, none⟩ (.int .u64 n)) w.heap.size (.slice A' m' c') L := by
    have hne := T.Arr.ne HF.out.2.1 HF.out.1 (by decide)
    refine T.Arr.keep (show T.Arr 135 U.drew _ _ L from HF.out.2.1) (gr_set (gr_refl _ (some q)) _) ?_
    rcases hv : (Value.slice A' m' c').ownBlock with _ | g
    · exact .inl rfl
    · right
      rw [hv] at hne
      exact fun e => hne e.symm
  have fin : TCloned w most n L (.returned (.pointer (some ⟨q, 0, none⟩))) (U.drew.setCell ⟨q, 2, none⟩ (.int .u64 n)) :=
    ⟨q, _, rfl, ⟨r2, ha2, HH.out.fine, hle, hm8, hge, hn64⟩, gr_row (gr_set (gr_none (gr_drew HF.out.2.2.2) _) _) hge⟩
  have FIN := Lib.hid fin
  clear fin r2 ha2 HF c2
  go_wp2_with fail
  go_ret
  exact FIN.out
end Go.Proofs.Ytkfmcbhoendocaa
