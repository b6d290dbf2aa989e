/-
  Plain mathematics of layer 13 (space): over memory and by a table that stay what is kept of leaves does not show in one access.
  What SpaceStores and SpaceKeeps stand on: what a store leaves, byte by byte; all of memory, told; a text of bytes.
  Conditions: each part's own: the arguments are numbers of their kinds; the tables hold what the program's text lays.
-/
import Derived.Test.YtkfmcbhoendocaaLayS
import Derived.Test.YtkfmcbhoendocaaTlbY
import Derived.Test.YtkfmcbhoendocaaLayL
import Derived.Test.YtkfmcbhoendocaaRamLaw
import Derived.Test.YtkfmcbhoendocaaWalkR
section
namespace Go.Proofs.Ytkfmcbhoendocaa.S
open Go Go.RowKit W D A P M K T
set_option linter.unusedVariables false

/-- Two faults that show the same. -/
def Eq3 (f g : Wr) : Prop := f.isf = g.isf ∧ f.cause = g.cause ∧ f.val = g.val
section
variable {bs : List Int} {sa st priv kind va : Int}
theorem sF_sound {L : List Lf} (h : ∀ k ∈ L, Sound bs sa k) (m : Int) : Eq3 (sF bs L sa st priv kind va m) (sF bs [] sa st priv kind va m) ∧ sR bs L sa st priv kind va m = sR bs [] sa st priv kind va m := by
  obtain ⟨h1, ⟨h2, h3, h4⟩, -⟩ := sound_to (most := 0) (st := st) (priv := priv) (kind := kind) (va := va) h
  have e : Eq3 (sF bs L sa st priv kind va m) (sF bs [] sa st priv kind va m) := by
    rw [sF_nil]
    unfold sF
    rw [h1]
    by_cases hw : (walkV bs sa st priv kind va).isf = true
    · rw [if_pos hw, if_pos (by rw [h2]; exact hw)]
      exact ⟨h2, h3, h4⟩
    · rw [if_neg hw, if_neg (by rw [h2]; exact hw)]
      exact ⟨rfl, rfl, rfl⟩
  refine ⟨e, ?_⟩
  unfold sR
  rw [e.1, h1, nR]
theorem run_sound {most : Nat} : ∀ (k i : Nat) (L : List Lf) (n n' : Int), (∀ k ∈ L, Sound bs sa k) →
    Eq3 (runV bs most sa st priv kind va k i L n).f (runV bs 0 sa st priv kind va k i [] n').f ∧ (runV bs most sa st priv kind va k i L n).all = (runV bs 0 sa st priv kind va k i [] n').all
  | 0, i, L, n, n', h => ⟨⟨rfl, rfl, rfl⟩, rfl⟩
  | k + 1, i, L, n, n', h => by
    obtain ⟨⟨e1, e2, e3⟩, e4⟩ := sF_sound (st := st) (priv := priv) (kind := kind) (va := stepA va i) h 1
    have hs := (sound_to (most := most) (st := st) (priv := priv) (kind := kind) (va := stepA va i) h).2.2
    unfold runV
    rw [nL]
    obtain ⟨⟨r1, r2, r3⟩, r4⟩ := run_sound (most := most) k (i + 1) (toLV bs most L sa st priv kind (stepA va i)) (toNV L n sa st priv kind (stepA va i)) (toNV [] n' sa st priv kind (stepA va i)) hs
    by_cases hf : (sF bs [] sa st priv kind (stepA va i) 1).isf = true
    · rw [if_pos hf, if_pos (by rw [e1]; exact hf)]
      exact ⟨⟨e1, e2, e3⟩, rfl⟩
    · rw [if_neg hf, if_neg (by rw [e1]; exact hf)]
      by_cases hr : (runV bs 0 sa st priv kind va k (i + 1) [] (toNV [] n' sa st priv kind (stepA va i))).f.isf = true
      · rw [if_pos hr, if_pos (by rw [r1]; exact hr)]
        exact ⟨⟨r1, r2, r3⟩, r4⟩
      · rw [if_neg hr, if_neg (by rw [r1]; exact hr)]
        exact ⟨⟨r1, r2, r3⟩, by simp only [e4, r4]⟩
theorem reals_sound (most m : Nat) (n n' : Int) : Eq3 (realsV bs most sa st priv kind va m [] n).f (realsV bs 0 sa st priv kind va m [] n').f ∧ (realsV bs most sa st priv kind va m [] n).all = (realsV bs 0 sa st priv kind va m [] n').all := by
  unfold realsV
  split
  · exact ⟨⟨rfl, rfl, rfl⟩, rfl⟩
  · exact run_sound m 0 [] n n' (fun k hk => by cases hk)
theorem fetch_sound (most : Nat) (n n' : Int) : Eq3 (fetchV bs most sa st priv va [] n).f (fetchV bs 0 sa st priv va [] n').f ∧ (fetchV bs most sa st priv va [] n).x = (fetchV bs 0 sa st priv va [] n').x := by
  have hs := (sound_to (bs := bs) (sa := sa) (L := []) (most := most) (st := st) (priv := priv) (kind := 0) (va := va) (fun k hk => by cases hk)).2.2
  obtain ⟨⟨e1, e2, e3⟩, e4⟩ := sF_sound (st := st) (priv := priv) (kind := 0) (va := stepA va 2) hs 2
  have eh : halfV bs (toLV bs most [] sa st priv 0 va) sa st priv (stepA va 2) = halfV bs [] sa st priv (stepA va 2) := by
    unfold halfV
    rw [e1, e4]
  unfold fetchV
  rw [nL]
  split
  · exact ⟨⟨rfl, rfl, rfl⟩, rfl⟩
  · by_cases hf : (sF bs [] sa st priv 0 (stepA va 2) 2).isf = true
    · rw [if_pos hf, if_pos (by rw [e1]; exact hf)]
      exact ⟨⟨e1, e2, e3⟩, rfl⟩
    · rw [if_neg hf, if_neg (by rw [e1]; exact hf)]
      exact ⟨⟨e1, e2, e3⟩, by simp only [eh]⟩
end
end Go.Proofs.Ytkfmcbhoendocaa.S
end

section
namespace Go.Proofs.Ytkfmcbhoendocaa.S
open Go Go.RowKit W D A P M K T
set_option linter.unusedVariables false
theorem storeX_snoc : ∀ (l bs : List Int) (a x : Int), storeX bs (l ++ [a]) x = putV (storeX bs l x) a 1 (x / 256 ^ l.length)
  | [], bs, a, x => by simp [storeX]
  | b :: l, bs, a, x => by
    rw [List.cons_append, storeX, storeX_snoc l, storeX, List.length_cons, Int.pow_succ, Int.mul_comm, Int.ediv_ediv_of_nonneg (by omega)]
theorem put_set {cs : List Int} {a y : Int} (h : okB cs.length a 1 = true) : putV cs a 1 y = cs.set (offV a) (y % 256) := by
  have ho := has_off (ok_of h).2
  have hlt : offV a < cs.length := by omega
  unfold putV
  rw [if_pos h]
  show splice cs (offV a) [y % 256] = _
  apply List.ext_getElem?
  intro i
  rw [splice_get _ _ _ (by simp; omega), List.getElem?_set]
  simp only [List.length_cons, List.length_nil]
  by_cases h1 : offV a = i
  · subst h1
    rw [if_pos (by omega), if_pos rfl, if_pos hlt, Nat.sub_self]
    rfl
  · rw [if_neg (by omega), if_neg h1]
section
variable {bs : List Int} {sa st priv va : Int}
theorem stores_nil {m : Nat} (hm : m = 1 ∨ m = 2 ∨ m = 4 ∨ m = 8) (hb : Byt bs) (hl : bs.length ≤ 65536) (hv : B64 va) {r : Ans} (hr : realsV bs 0 sa st priv 2 va m [] 0 = r) :
    (r.f.isf = false → r.all.length = m ∧ ∀ a ∈ r.all, okB bs.length a 1 = true) ∧
    (r.f.isf = true → r.all = [] ∧ (r.f.cause = pfC 2 ∨ r.f.cause = naC 2) ∧ 0 ≤ (r.f.val - va) % 18446744073709551616 ∧ (r.f.val - va) % 18446744073709551616 < m) := by
  obtain ⟨t1, t2⟩ := reals_nil (sa := sa) (st := st) (priv := priv) (kind := 2) hm hb hl hv hr
  have hv' := hv
  unfold B64 at hv'
  rcases first_or (fun j => (bF bs sa st priv 2 va j).isf) m with h | ⟨j, h1, h2, h3⟩
  · obtain ⟨e1, e2⟩ := t1 h
    refine ⟨fun _ => ⟨by rw [e2]; simp, fun a ha => ?_⟩, fun h' => by rw [e1] at h'; cases h'⟩
    rw [e2] at ha
    obtain ⟨j, hj, rfl⟩ := List.mem_map.1 ha
    have hf := h j (List.mem_range.1 hj)
    unfold bX
    rw [sR_of hf]
    unfold okB
    rw [(sF_has hf).2]
    rfl
  · obtain ⟨e1, e2, e3, e4⟩ := t2 j h1 h2 h3
    refine ⟨fun h' => (by rw [e1] at h'; cases h'), fun _ => ⟨e2, ?_, ?_⟩⟩
    · rw [e3]
      exact (sF_of h3).1
    · rcases e4 with e4 | ⟨-, e4⟩
      · rw [e4]; unfold stepA; omega
      · rw [e4]; omega
end
end Go.Proofs.Ytkfmcbhoendocaa.S
namespace Go.Proofs.Ytkfmcbhoendocaa
open Go Go.RowKit W M D A C P K
set_option linter.unusedVariables false
theorem row_text {w : World} {g : Nat} {bs : List Int} (h : Row w g 5 (vals bs)) (hb : Byt bs) {N : Nat} (hN : N = bs.length) (d : Nat) :
    (convert 95 9 (.slice (some ⟨g, 0, none⟩) N N)).run Try.prog (w.drewN d) = .ok (.string (strOfNums bs)) (w.drewN d) := by
  subst hN
  have hsh : Shows (w.drewN d) _ _ _ _ := Row.shows (show Row (w.drewN d) g 5 (vals bs) from h) hb
  exact hsh.text (P := Try.prog) 95 5 9 bs.length Try.underlying95 Try.underlying5 Try.underlying9
theorem all_c {p g : Nat} {bs : List Int} {w : World} (h : RAt w p g bs) {N : Nat} (hN : N = bs.length) : Calls Try.prog 45 #[.pointer (some ⟨p, 0, none⟩), .int .u64 2147483648, .int .i64 N] w fun e w' => e = .returned (.tuple #[.slice (some ⟨w.heap.size, 0, none⟩) N N, .bool true]) ∧ Row w' w.heap.size 5 (vals bs) ∧ w.grownBy w' none := by
  subst hN
  have := Bytes_yes p g bs 2147483648 bs.length w h (by omega) (has_all bs.length)
  rw [part_all] at this
  exact this
theorem QAt.fr {w w' : World} {p' g' pm gm B : Nat} {bs cs : List Int} (h : QAt w p' g' cs) (hm : RAt w pm gm bs) (hF : Fr B gm w w') (hg : g' ≠ gm) : QAt w' p' g' cs :=
  ⟨hF.row h.ptr (by decide) (by decide) (h.ptr.apart hm.row (by decide)), hF.row h.row (by decide) (by decide) hg, h.byt, h.len⟩
theorem Store_n {c : Cs} {priv va x : Int} {m : Nat} (hc : C.Good c) (hp : I64 priv) (hv : B64 va) (hx : B64 x) (hm : m = 1 ∨ m = 2 ∨ m = 4 ∨ m = 8) {bs : List Int} {r : S.Ans}
    (hr : S.realsV bs 0 (gC c 9) (gC c 0) priv 2 va m [] 0 = r) (pm gm B : Nat) (w : World) (h : Spc w B pm gm bs none 0 0 []) :
    Calls Try.prog 40 #[.agg #[.pointer (some ⟨pm, 0, none⟩), .pointer none], vC c, .int .i64 priv, .int .u64 va, .int .i64 m, .int .u64 x] w fun e w' => ∃ v, e = .returned (.tuple #[v, .agg #[.bool r.f.isf, .int .i64 r.f.cause, .int .u64 r.f.val]]) ∧ Adr w' v r.all w.heap.size ∧ Spc w' B pm gm (S.storeX bs r.all x) none 0 0 [] ∧ Fr B gm w w' := by
  refine (SStore_c pm gm bs c hc priv va m x hp hv hm hx B none 0 0 [] w h r hr).mono ?_
  rintro e w' ⟨v, rfl, hA, hS, hF⟩
  exact ⟨v, rfl, hA, nil_state hS, hF⟩
end Go.Proofs.Ytkfmcbhoendocaa
end
