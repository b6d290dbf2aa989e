/-
  Memory for layer 16 (mask): a slice that owns whole numbers, and one that shows them; what an append leaves.
  Conditions: none.
-/
import Derived.Test.YtgcjefgblodfmaaProg
import Derived.Test.YtgcjefgblodfmaaRamM
import Derived.Test.YtgcjefgblodfmaaMaskV
import Derived.Lib.Hide
import Derived.Deep.AppendLies
namespace Go.Proofs.Ytgcjefgblodfmaa.Mk
open Go Go.RowKit W M
set_option linter.unusedVariables false

def nums (l : List Int) : List Value := l.map (Value.int .i64)
theorem nums_length (l : List Int) : (nums l).length = l.length := by simp [nums]
theorem nums_app (l : List Int) (x : Int) : nums (l ++ [x]) = nums l ++ [.int .i64 x] := by simp [nums]
theorem nums_get {l : List Int} {k : Nat} (hk : k < l.length) : (nums l)[k]? = some (.int .i64 (l.getD k 0)) := by simp [nums, List.getD, List.getElem?_eq_getElem hk]
theorem infoI : (Try.prog.info? 3).map (fun i => (i.zero, i.size, i.bytes)) = some (some (.int .i64 0), 1, 8) := by kernel_rfl
/-- The slice owns these numbers. -/
def Arr (w : World) (lo : Nat) (v : Value) (all : List Int) : Prop := w.ownsRow lo 3 1 v all.length (nums all)
/-- The slice shows these numbers. -/
def Sees (w : World) (v : Value) (all : List Int) : Prop :=
  ∃ A cap, v = .slice A all.length cap ∧ all.length ≤ cap ∧ ∀ i, i < all.length → ∃ ad, A = some ad ∧ ad.block < w.heap.size ∧ w.cell? (ad.add i) = some (.int .i64 (all.getD i 0))
section
variable {w w' : World} {lo : Nat} {v : Value} {all : List Int}
theorem Arr.parts (h : Arr w lo v all) : (v = .slice none 0 0 ∧ all = []) ∨ ∃ g cap cur, v = .slice (some ⟨g, 0, none⟩) all.length cap ∧ lo ≤ g ∧ Row w g 3 cur ∧ all.length ≤ cap ∧ cap ≤ maxLen ∧ cur.length = cap ∧ cur.take all.length = nums all := by
  rcases h.2 with ⟨h1, h2⟩ | ⟨g, cap, cur, h1, h2, h3, h4, h5, h6, h7⟩
  · exact .inl ⟨h1, List.eq_nil_of_length_eq_zero h2⟩
  · exact .inr ⟨g, cap, cur.toList, h1, h2, show w.heap[g]? = some (.cells cur.toList.toArray 3 (0, 0)) by rw [Array.toArray_toList]; exact h3, h4, h5, by simpa using h6, by simpa using h7⟩
theorem Arr.of {g cap : Nat} {cur : List Value} (hg : lo ≤ g) (hr : Row w g 3 cur) (h1 : all.length ≤ cap) (h2 : cap ≤ maxLen) (h3 : cur.length = cap) (h4 : cur.take all.length = nums all) : Arr w lo (.slice (some ⟨g, 0, none⟩) all.length cap) all :=
  ⟨by rw [nums_length, Nat.mul_one], .inr ⟨g, cap, cur.toArray, rfl, hg, hr, h1, h2, by simpa using h3, by simpa using h4⟩⟩
theorem Arr.nil (w : World) (lo : Nat) : Arr w lo (.slice none 0 0) [] := World.ownsRow_nil w lo _ 1
theorem Arr.keep {row : Option Nat} (h : Arr w lo v all) (hg : w.grownBy w' row) (hn : v.ownBlock = none ∨ v.ownBlock ≠ row) : Arr w' lo v all := World.ownsRow.kept h hg hn
theorem Arr.kept (h : Arr w lo v all) (hg : w.grownBy w' none) : Arr w' lo v all := h.keep hg (by cases v.ownBlock <;> simp)
theorem Arr.less {lo' : Nat} (h : Arr w lo v all) (hl : lo' ≤ lo) : Arr w lo' v all := by
  rcases h.parts with ⟨rfl, rfl⟩ | ⟨g', cap, cur, rfl, h1, h2, h3, h4, h5, h6⟩
  · exact Arr.nil w lo'
  · exact Arr.of (by omega) h2 h3 h4 h5 h6
theorem Arr.sees (h : Arr w lo v all) : Sees w v all := by
  rcases h.parts with ⟨rfl, rfl⟩ | ⟨g', cap, cur, rfl, h1, h2, h3, h4, h5, h6⟩
  · exact ⟨none, 0, rfl, by simp, by intro i hi; simp at hi⟩
  · refine ⟨_, cap, rfl, h3, fun i hi => ⟨_, rfl, h2.lt, ?_⟩⟩
    rw [addr_add, Nat.zero_add, h2.cell, ← nums_get hi, ← h6, List.getElem?_take_of_lt hi]
theorem Arr.form (h : Arr w lo v all) : ∃ A cap, v = .slice A all.length cap := by
  rcases h.parts with ⟨rfl, rfl⟩ | ⟨g', cap, cur, rfl, h1, h2, h3, h4, h5, h6⟩
  · exact ⟨_, _, rfl⟩
  · exact ⟨_, _, rfl⟩
theorem Arr.at {g cap n i : Nat} (h : Arr w lo (.slice (some ⟨g, 0, none⟩) n cap) all) (hi : i < all.length) : g < w.heap.size ∧ w.cell? ⟨g, i, none⟩ = some (.int .i64 (all.getD i 0)) := by
  obtain ⟨A, cap', e, -, hs⟩ := h.sees
  obtain ⟨ad, rfl, hb, hx⟩ := hs i hi
  injection e with e1 e2 e3
  injection e1 with e1
  subst e1
  rw [addr_add, Nat.zero_add] at hx
  exact ⟨hb, hx⟩
theorem Sees.kept (h : Sees w v all) (hg : w.grownBy w' none) : Sees w' v all := by
  obtain ⟨A, cap, rfl, hc, h⟩ := h
  refine ⟨A, cap, rfl, hc, fun i hi => ?_⟩
  obtain ⟨ad, e, hb, hx⟩ := h i hi
  exact ⟨ad, e, Nat.lt_of_lt_of_le hb hg.size, ((gr_below hg).cell (by rw [add_block]; exact hb)).trans hx⟩
theorem Sees.drew (h : Sees w v all) : Sees w.drew v all := h
theorem news_row {y : Nat} {t : TypeId} {l : List Value} (h : Row w y t l) : ∀ j u, l[j]? = some u → w.cell? ((⟨y, 0, none⟩ : Addr).add j) = some u := fun j u hj => by
  rw [addr_add, Nat.zero_add, h.cell]; exact hj
/-- What grew by a row that is new. -/
theorem gr_own {wc : World} {all : List Int} (hG : w.grownBy wc none) (hA : Arr wc w.heap.size v all) (hgr : wc.grownBy w' v.ownBlock) : w.grownBy w' none := by
  rcases hA.parts with ⟨rfl, rfl⟩ | ⟨g', cap, cur, rfl, h1, h2, h3, h4, h5, h6⟩
  · exact gr_trans hG hgr
  · exact gr_row (gr_trans (gr_none hG (some g')) hgr) h1
/-- A number has been appended. -/
theorem app_fin {wc : World} {x : Int} {g cap : Nat} {ob : Obj} (hG : w.grownBy wc none) (hA : Arr wc w.heap.size v all)
    (hown : w'.ownsRow w.heap.size 3 1 (.slice (some ⟨g, 0, none⟩) (all.length + 1) cap) (all.length + 1) (nums all ++ [.int .i64 x])) (hgr : (wc.alloc ob).grownBy w' v.ownBlock) :
    Arr w' w.heap.size (.slice (some ⟨g, 0, none⟩) (all.length + 1) cap) (all ++ [x]) ∧ w.grownBy w' none := by
  have hg := gr_alloc (gr_refl wc none) ob
  refine ⟨?_, gr_own (gr_trans hG hg) (hA.kept hg) hgr⟩
  unfold Arr
  rw [nums_app, List.length_append]
  exact hown
end
theorem made_nums (n : Nat) : madeCells #[Value.int .i64 0] n = (nums (List.replicate n 0)).toArray := by
  apply Array.ext
  · simp [madeCells, nums]
  · intro i h1 h2
    simp [madeCells, nums, Nat.mod_one]
theorem make_i64 (m : Nat) (hm : m ≤ 4096) (W : World) :
    (Instr.makeSlice 24 (.int .i64 (m : Int)) (.int .i64 (m : Int))).run Try.prog W = .ok (.slice (some ⟨W.heap.size, 0, none⟩) m m) (W.alloc (.cells (nums (List.replicate m 0)).toArray 3)) := by
  have := run_make_row' (P := Try.prog) 24 3 (.int .i64 0) 8 Try.underlying24 infoI rfl .i64 .i64 m (by omega) (by omega) W
  rwa [made_nums] at this
/-- A row filled from the front: as far as i, noughts behind it. -/
def pad (i N : Nat) : List Int := firstsV i ++ List.replicate (N - i) 0
theorem pad_length {i N : Nat} (h : i ≤ N) : (pad i N).length = N := by simp [pad, firsts_length]; omega
theorem pad_set {i N : Nat} (h : i < N) : (nums (pad i N)).set i (.int .i64 (i : Int)) = nums (pad (i + 1) N) := by
  obtain ⟨k, hk⟩ : ∃ k, N - i = k + 1 := ⟨N - i - 1, by omega⟩
  have hk2 : N - (i + 1) = k := by omega
  unfold nums pad
  rw [hk, hk2, List.replicate_succ, firsts_succ]
  simp [firsts_length]
theorem pad_full (N : Nat) : pad N N = firstsV N := by simp [pad]
theorem pad_get {i N : Nat} (h : i < N) : (nums (pad i N))[i]? = some (.int .i64 0) := by
  obtain ⟨k, hk⟩ : ∃ k, N - i = k + 1 := ⟨N - i - 1, by omega⟩
  unfold nums pad
  rw [hk, List.replicate_succ]
  simp [firsts_length]
/-- A bit of a mask, as the walk reckons it. -/
theorem bit_and {M k : Nat} (hM : M < 18446744073709551616) : bits .and .u64 ((M : Int) / 2 ^ k) 1 = if M.testBit k = true then 1 else 0 := by
  have e : (M : Int) / 2 ^ k = ((M / 2 ^ k : Nat) : Int) := by simp
  have h1 : M / 2 ^ k ≤ M := Nat.div_le_self _ _
  rw [e, Nat.testBit_eq_decide_div_mod_eq]
  generalize M / 2 ^ k = q at *
  rw [and_one _ (by omega)]
  by_cases h : q % 2 = 1
  · rw [if_pos (by simpa using h)]; omega
  · rw [if_neg (by simpa using h)]; omega
/-- Two results that are values. -/
theorem ret_tt {fn : Func} {p u : Tmp} (h : fn.results = #[.tmp p, .tmp u]) {R : Ending → World → Prop} {a : Act} {w : World} {x y : Value}
    (hp : a.tmps.getD p undef = x) (hk : a.tmps.getD u undef = y) (hd : a.defers = []) (hQ : R (.returned (.tuple #[x, y])) w) : bodyPost Try.prog fn R .ret a w := by
  refine bodyPost_ret (v := .tuple #[x, y]) ?_ hd hQ
  have hp' : a.tmps[p]?.getD undef = x := by simpa using hp
  have hk' : a.tmps[u]?.getD undef = y := by simpa using hk
  simp [results, h, hp', hk']
end Go.Proofs.Ytgcjefgblodfmaa.Mk
