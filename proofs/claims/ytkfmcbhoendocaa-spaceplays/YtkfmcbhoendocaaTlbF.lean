/-
  Which leaf is found (Find), how many there are (Len): contracts over the program's translation.
  Conditions: the row stands behind its pointer; the arguments are numbers of their kinds.
-/
import Derived.Test.YtkfmcbhoendocaaTlbI
import Derived.Test.YtkfmcbhoendocaaWalkS
namespace Go.Proofs.Ytkfmcbhoendocaa
open Go Go.RowKit W M D A C P K
set_option linter.unusedVariables false

/-- A leaf and whether it is one: the first handed back out of a variable. -/
theorem ret_LB {fn : Func} {p u : Tmp} (h : fn.results = #[.cell p 52, .tmp u]) {R : Ending → World → Prop} {a : Act} {w : World} {g : Nat} {e l : Int} {gl : Bool} {x : Value}
    (hp : a.tmps.getD p undef = .pointer (some ⟨g, 0, none⟩)) (hx : a.tmps.getD u undef = x) (hd : a.defers = [])
    (hL : Row w g 52 (lLeaf e l gl)) (hQ : R (.returned (.tuple #[vLeaf e l gl, x])) w) : bodyPost Try.prog fn R .ret a w := by
  refine bodyPost_ret (v := .tuple #[vLeaf e l gl, x]) ?_ hd hQ
  have hp' : a.tmps[p]?.getD undef = .pointer (some ⟨g, 0, none⟩) := by simpa using hp
  have hx' : a.tmps[u]?.getD undef = x := by simpa using hx
  have la : (loadVar 52 ⟨g, 0, none⟩).run Try.prog w = .ok (.agg (lLeaf e l gl).toArray) w := run_loadVar_row _ _ _ _ _ (0, 0) _ hL Try.underlying52 rfl (leaf_size e l gl)
  simp [results, h, hp', hx', asAddr, la, vLeaf, lLeaf]
/-- The leaf that is found, or a leaf of nothing. -/
def gotT (o : Option T.Lf) : T.Lf := o.getD ⟨0, 0, 0, 0, false⟩
def vGot (o : Option T.Lf) : Value := vLeaf (gotT o).pte (gotT o).lev (gotT o).glob
abbrev HAt (w : World) (B p most : Nat) (v : Value) (n : Int) (L : List T.Lf) : Prop := T.Held 122 135 w B p most v n L
theorem find_idx (L : List T.Lf) (q : T.Lf → Bool) : (idxV L q = -1 ∧ L.find? q = none) ∨ ∃ (i : Nat) (x : T.Lf), idxV L q = i ∧ L[i]? = some x ∧ L.find? q = some x := by
  cases h : L.findIdx? q with
  | none =>
    left
    refine ⟨by rw [idxV, h], ?_⟩
    rw [List.findIdx?_eq_none_iff] at h
    rw [List.find?_eq_none]
    intro x hx
    simp [h x hx]
  | some i =>
    right
    rw [List.findIdx?_eq_some_iff_getElem] at h
    obtain ⟨hi, h1, h2⟩ := h
    refine ⟨i, L[i], by rw [idxV, List.findIdx?_eq_some_iff_getElem.2 ⟨hi, h1, h2⟩], List.getElem?_eq_getElem hi, ?_⟩
    rw [List.find?_eq_some_iff_getElem]
    exact ⟨h1, i, hi, rfl, fun j hj => by simpa using h2 j hj⟩

set_option maxHeartbeats 2000000 in
theorem Find_c (B p most : Nat) (v : Value) (n : Int) (L : List T.Lf) (a s : Int) (ha : B64 a) (hs : B64 s) (w : World) (h : HAt w B p most v n L) :
    Calls Try.prog 19 #[.pointer (some ⟨p, 0, none⟩), .int .u64 a, .int .u64 s] w fun e w' => e = .returned (.tuple #[vGot (T.findT L a s), .bool (T.findT L a s).isSome]) ∧ w.grownBy w' none := by
  have hmf : ∀ (fn : Fn) (first cap : Array Value) (w : World), (Instr.makeFunc fn first cap).run Try.prog w = .ok (.func fn first cap) w := fun _ _ _ _ => rfl
  have c1 := h.c1
  have l1 := h.ptr.lt
  have r1 := ((Row.fresh w 22 [.int .u64 a]).alloc (.cells #[.int .u64 s] 22)).alloc (.cells #[.int .u64 0, .int .i64 0, .bool false] 52)
  have r2 := (Row.fresh (w.alloc (.cells #[.int .u64 a] 22)) 22 [.int .u64 s]).alloc (.cells #[.int .u64 0, .int .i64 0, .bool false] 52)
  have r3 := Row.fresh ((w.alloc (.cells #[.int .u64 a] 22)).alloc (.cells #[.int .u64 s] 22)) 52 (lLeaf 0 0 false)
  have hg := gr_alloc (gr_alloc (gr_alloc (gr_refl w none) (.cells #[.int .u64 a] 22)) (.cells #[.int .u64 s] 22)) (.cells #[.int .u64 0, .int .i64 0, .bool false] 52)
  rw [show (w.alloc (.cells #[.int .u64 a] 22)).heap.size = w.heap.size + 1 from Array.size_push ..] at r2
  rw [show ((w.alloc (.cells #[.int .u64 a] 22)).alloc (.cells #[.int .u64 s] 22)).heap.size = w.heap.size + 1 + 1 from by rw [show ((w.alloc (.cells #[.int .u64 a] 22)).alloc (.cells #[.int .u64 s] 22)).heap.size = (w.alloc (.cells #[.int .u64 a] 22)).heap.size + 1 from Array.size_push .., show (w.alloc (.cells #[.int .u64 a] 22)).heap.size = w.heap.size + 1 from Array.size_push ..]] at r3
  have ht : ∀ W, Row W w.heap.size 22 [.int .u64 a] → Row W (w.heap.size + 1) 22 [.int .u64 s] → Tests w.heap.size W (.func (.func 70) #[] #[.pointer (some ⟨w.heap.size, 0, none⟩), .pointer (some ⟨w.heap.size + 1, 0, none⟩)]) (T.keyT a s) := fun W q1 q2 =>
    ⟨_, _, rfl, fun _ _ => by kernel_rfl, fun w' hk x hx => find1_c x hx a s ha hs _ _ w' ((hk _ (Nat.le_refl _) q1.lt).trans q1) ((hk _ (by omega) q2.lt).trans q2)⟩
  have IX := Lib.hid (fun W f hA hT => index_c L h.fine (by have := h.le; have := h.most; omega) w.heap.size B v f (T.keyT a s) W hA hT)
  have HU := Lib.hid (And.intro (h.arr.kept hg) (And.intro (ht _ r1 r2) (And.intro r3 hg)))
  have HH := Lib.hid h
  have c1 := (h.kept hg).c1
  clear r1 r2 r3 hg ht h
  unfold B64 at ha hs
  go_enter Try.func19, Try.ntmps19
  go_wp2_with fail
  have hU := HU.out
  clear HU
  unfold lLeaf at hU
  generalize ((w.alloc (.cells #[.int .u64 a] 22)).alloc (.cells #[.int .u64 s] 22)).alloc (.cells #[.int .u64 0, .int .i64 0, .bool false] 52) = U at *
  refine (IX.out U _ hU.1 hU.2.1).mono ?_
  rintro e w1 ⟨rfl, hG⟩
  have hg := gr_trans hU.2.2.2 hG
  have h1 := HH.out.kept hg
  have r3 := hU.2.2.1.grown hG (by simp)
  have c1 := h1.c1
  have l1 := h1.ptr.lt
  have fz := r3.free
  have q0 : w1.cell? ⟨w.heap.size + 1 + 1, 0, none⟩ = some (.int .u64 0) := r3.cell 0
  have q1 : w1.cell? ⟨w.heap.size + 1 + 1, 1, none⟩ = some (.int .i64 0) := r3.cell 1
  have q2 : w1.cell? ⟨w.heap.size + 1 + 1, 2, none⟩ = some (.bool false) := r3.cell 2
  have sz := r3.lt
  have l0 : w.heap.size ≤ w1.heap.size := hg.size
  have DN := Lib.hid (fun x y z => And.intro (put3 r3 x y z) (gr3 hg (show w.heap.size ≤ w.heap.size + 1 + 1 by omega) x y z))
  clear hU hG IX HH r3 hg
  rcases find_idx L (T.keyT a s) with ⟨hi, ho⟩ | ⟨i, x, hi, hx, ho⟩
  · rw [hi]
    have HO := Lib.hid ho
    clear h1 hi ho
    go_wp2_with fail
    exact ret_LB rfl rfl rfl rfl (DN.out _ _ _).1 ⟨by unfold T.findT; rw [HO.out]; rfl, (DN.out _ _ _).2⟩
  · rw [hi]
    have HO := Lib.hid ho
    have hx8 : i < L.length := (List.getElem?_eq_some_iff.1 hx).1
    have hle := h1.le
    have hm8 := h1.most
    rcases h1.arr.parts with ⟨rfl, rfl⟩ | ⟨g, cap, cur, rfl, hB, hLd⟩
    · cases hx
    · obtain ⟨-, -, k2, k3, k4⟩ := hLd.cells hx
      obtain ⟨va, asid, pte, lev, glob⟩ := x
      simp only at k2 k3 k4
      have hi0 : ¬ ((i : Int) < 0) := by omega
      clear h1 hi ho hx hLd
      go_wp2_with fail
      exact ret_LB rfl rfl rfl rfl (DN.out _ _ _).1 ⟨by unfold T.findT; rw [HO.out]; rfl, (DN.out _ _ _).2⟩
set_option maxHeartbeats 1000000 in
theorem Len_c (B p most : Nat) (v : Value) (n : Int) (L : List T.Lf) (w : World) (h : HAt w B p most v n L) :
    Calls Try.prog 20 #[.pointer (some ⟨p, 0, none⟩)] w fun e w' => e = .returned (.int .i64 L.length) ∧ w = w' := by
  have c1 := h.c1
  rcases h.arr.parts with ⟨rfl, rfl⟩ | ⟨g, cap, cur, rfl, hB, hLd⟩
  · clear h
    go_enter Try.func20, Try.ntmps20
    go_wp2_with fail
    go_ret
    exact ⟨rfl, rfl⟩
  · clear h hLd
    go_enter Try.func20, Try.ntmps20
    go_wp2_with fail
    go_ret
    exact ⟨rfl, rfl⟩
end Go.Proofs.Ytkfmcbhoendocaa
