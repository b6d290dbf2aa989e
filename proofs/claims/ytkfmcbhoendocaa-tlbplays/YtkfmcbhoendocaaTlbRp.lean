/-
  What stands while TlbPlays goes on: both memories, both rows of leaves, what is done; what each step leaves of it; New and leaf.
  Conditions: the arguments are numbers of their kinds.
-/
import Derived.Test.YtkfmcbhoendocaaTlbRc
import Derived.Test.YtkfmcbhoendocaaTlbRt
import Derived.Test.YtkfmcbhoendocaaTlbU
namespace Go.Proofs.Ytkfmcbhoendocaa
open Go Go.RowKit W M D A C P K
set_option linter.unusedVariables false
set_option linter.unusedSimpArgs false

theorem put_does : PutDoes := fun p most v n L k hk w h => rPut_tlb p most v n L k hk w h
/-- The document's row stands where rows of its two types stand. -/
theorem QT.rows {w w' : World} {p most : Nat} {v : Value} {n : Int} {L : List T.Lf} (h : QT w p most v n L) (h1 : ∀ g l, Row w g 73 l → Row w' g 73 l) (h2 : ∀ g l, Row w g 142 l → Row w' g 142 l) : QT w' p most v n L := by
  refine ⟨h1 _ _ h.ptr, ?_, h.fine, h.le, h.most, h.num⟩
  rcases h.sl with hs | ⟨g, o, cap, cur, a1, a2, a3, a4, a5, a6⟩
  · exact Or.inl hs
  · exact Or.inr ⟨g, o, cap, cur, a1, a2, a3, h2 _ _ a4, a5, a6⟩
/-- The program's row, kept under a step that writes to one row of another type. -/
theorem held_far {w w' : World} {B p most g : Nat} {v : Value} {n : Int} {L : List T.Lf} {t : TypeId} {l : List Value} (h : HAt w B p most v n L) (hr : Row w g t l) (h1 : 122 ≠ t) (h2 : t ≠ 135) (hg : w.grownBy w' (some g)) : HAt w' B p most v n L := by
  refine ⟨h.ptr.grown hg (some_ne (h.ptr.apart hr h1)), h.arr.keep hg ?_, h.fine, h.le, h.most, h.own, h.num⟩
  have hn := h.arr.ne hr h2
  rcases hq : v.ownBlock with _ | g'
  · exact .inl rfl
  · right
    rw [hq] at hn
    exact fun e => hn e.symm
theorem at_far {w w' : World} {T1 : TypeId} {p g g2 : Nat} {bs : List Int} {t : TypeId} {l : List Value} (h : At T1 5 w p g bs) (hr : Row w g2 t l) (h1 : T1 ≠ t) (h2 : 5 ≠ t) (hg : w.grownBy w' (some g2)) : At T1 5 w' p g bs :=
  ⟨h.ptr.grown hg (some_ne (h.ptr.apart hr h1)), h.row.grown hg (some_ne (h.row.apart hr h2)), h.byt, h.len⟩
structure Bg (w : World) (T0 : TypeId) (t : Nat) (l : List Value) (pm gm pm' gm' : Nat) (bs bs2 : List Int) (p u most : Nat) (n n2 : Int) (L L2 : List T.Lf) (wr : World) : Prop where
  opr : Row wr t T0 l
  mem : RAt wr pm gm bs
  mem2 : QAt wr pm' gm' bs2
  row : ∃ v, HAt wr w.heap.size p most v n L
  row2 : ∃ v, QT wr u most v n2 L2
  gr : w.grownBy wr none
  lo : w.heap.size ≤ u ∧ w.heap.size ≤ gm ∧ w.heap.size ≤ gm' ∧ gm ≠ gm'
section
variable {w wr ws : World} {T0 : TypeId} {t pm gm pm' gm' p u most : Nat} {l : List Value} {bs bs2 cs : List Int} {n n2 n' : Int} {L L2 L' : List T.Lf}
theorem Bg.keep (h : Bg w T0 t l pm gm pm' gm' bs bs2 p u most n n2 L L2 wr) (hg : wr.grownBy ws none) : Bg w T0 t l pm gm pm' gm' bs bs2 p u most n n2 L L2 ws :=
  ⟨h.opr.grown hg (by simp), h.mem.kept hg, h.mem2.kept hg, let ⟨v, hv⟩ := h.row; ⟨v, hv.kept hg⟩, let ⟨v, hv⟩ := h.row2; ⟨v, hv.kept hg⟩, gr_trans h.gr hg, h.lo⟩
/-- Another row of what is done. -/
theorem Bg.op {T1 : TypeId} {t1 : Nat} {l1 : List Value} (h : Bg w T0 t l pm gm pm' gm' bs bs2 p u most n n2 L L2 wr) (hr : Row wr t1 T1 l1) : Bg w T1 t1 l1 pm gm pm' gm' bs bs2 p u most n n2 L L2 wr := ⟨hr, h.mem, h.mem2, h.row, h.row2, h.gr, h.lo⟩
/-- The program's row has turned. -/
theorem Bg.one {v : Value} (h : Bg w T0 t l pm gm pm' gm' bs bs2 p u most n n2 L L2 wr) (hv : HAt wr w.heap.size p most v n L) (h1 : T0 ≠ 122) (h2 : T0 ≠ 135) (ht : Turned wr w.heap.size p most v n' L' ws) :
    Bg w T0 t l pm gm pm' gm' bs bs2 p u most n' n2 L' L2 ws := by
  obtain ⟨v', hh, -, hb⟩ := ht
  obtain ⟨v2, hv2⟩ := h.row2
  exact ⟨held_row hv hb h.opr h1 h2, held_ram hv hb h.mem, ⟨held_row hv hb h.mem2.ptr (by decide) (by decide), held_row hv hb h.mem2.row (by decide) (by decide), h.mem2.byt, h.mem2.len⟩, ⟨v', hh⟩,
    ⟨v2, hv2.rows (fun g l hr => held_row hv hb hr (by decide) (by decide)) (fun g l hr => held_row hv hb hr (by decide) (by decide))⟩, but_grown h.gr hv (Nat.le_refl _) hb, h.lo⟩
/-- The document's row has turned. -/
theorem Bg.two (h : Bg w T0 t l pm gm pm' gm' bs bs2 p u most n n2 L L2 wr) (h1 : T0 ≠ 73) (hr : ∃ v, QT ws u most v n' L') (hg : wr.grownBy ws (some u)) : Bg w T0 t l pm gm pm' gm' bs bs2 p u most n n' L L' ws := by
  obtain ⟨v2, hv2⟩ := h.row2
  obtain ⟨v, hv⟩ := h.row
  exact ⟨h.opr.grown hg (some_ne (h.opr.apart hv2.ptr h1)), at_far h.mem hv2.ptr (by decide) (by decide) hg, at_far h.mem2 hv2.ptr (by decide) (by decide) hg, ⟨v, held_far hv hv2.ptr (by decide) (by decide) hg⟩, hr, gr_row (gr_trans (gr_none h.gr _) hg) h.lo.1, h.lo⟩
/-- A number is written into the program's memory. -/
theorem Bg.put1 (h : Bg w T0 t l pm gm pm' gm' bs bs2 p u most n n2 L L2 wr) (h1 : T0 ≠ 5) (hm : RAt ws pm gm cs) (hg : wr.grownBy ws (some gm)) : Bg w T0 t l pm gm pm' gm' cs bs2 p u most n n2 L L2 ws := by
  obtain ⟨v2, hv2⟩ := h.row2
  obtain ⟨v, hv⟩ := h.row
  refine ⟨h.opr.grown hg (some_ne (h.opr.apart h.mem.row h1)), hm, ⟨h.mem2.ptr.grown hg (some_ne (h.mem2.ptr.apart h.mem.row (by decide))), h.mem2.row.grown hg (some_ne h.lo.2.2.2.symm), h.mem2.byt, h.mem2.len⟩, ⟨v, held_far hv h.mem.row (by decide) (by decide) hg⟩,
    ⟨v2, hv2.rows (fun g l hr => hr.grown hg (some_ne (hr.apart h.mem.row (by decide)))) (fun g l hr => hr.grown hg (some_ne (hr.apart h.mem.row (by decide))))⟩, gr_row (gr_trans (gr_none h.gr _) hg) h.lo.2.1, h.lo⟩
/-- And into the document's. -/
theorem Bg.put2 (h : Bg w T0 t l pm gm pm' gm' bs bs2 p u most n n2 L L2 wr) (h1 : T0 ≠ 5) (hm : QAt ws pm' gm' cs) (hg : wr.grownBy ws (some gm')) : Bg w T0 t l pm gm pm' gm' bs cs p u most n n2 L L2 ws := by
  obtain ⟨v2, hv2⟩ := h.row2
  obtain ⟨v, hv⟩ := h.row
  refine ⟨h.opr.grown hg (some_ne (h.opr.apart h.mem2.row h1)), ⟨h.mem.ptr.grown hg (some_ne (h.mem.ptr.apart h.mem2.row (by decide))), h.mem.row.grown hg (some_ne h.lo.2.2.2), h.mem.byt, h.mem.len⟩, hm, ⟨v, held_far hv h.mem2.row (by decide) (by decide) hg⟩,
    ⟨v2, hv2.rows (fun g l hr => hr.grown hg (some_ne (hr.apart h.mem2.row (by decide)))) (fun g l hr => hr.grown hg (some_ne (hr.apart h.mem2.row (by decide))))⟩, gr_row (gr_trans (gr_none h.gr _) hg) h.lo.2.2.1, h.lo⟩
/-- A clone stands in the row's place while the old row is turned. -/
structure Cl (w : World) (T0 : TypeId) (t : Nat) (l : List Value) (pm gm pm' gm' : Nat) (bs bs2 : List Int) (p q u most : Nat) (S N : Nat) (n m n2 : Int) (L M L2 : List T.Lf) (wr : World) : Prop where
  all : Bg w T0 t l pm gm pm' gm' bs bs2 q u most n n2 L L2 wr
  old : ∃ v, HAt wr w.heap.size p most v m M ∧ (∀ g, v.ownBlock = some g → g < S ∨ N ≤ g)
  cl : ∃ v, HAt wr S q most v n L ∧ (∀ g, v.ownBlock = some g → g < N)
  ord : p < S ∧ S ≤ q ∧ q < N ∧ w.heap.size ≤ S ∧ N ≤ wr.heap.size
theorem Bg.clone (h : Bg w T0 t l pm gm pm' gm' bs bs2 p u most n n2 L L2 wr) {q : Nat} {v' : Value} (hc : HAt ws wr.heap.size q most v' n L) (hg : wr.grownBy ws none) : Cl w T0 t l pm gm pm' gm' bs bs2 p q u most wr.heap.size ws.heap.size n n n2 L L L2 ws := by
  obtain ⟨v, hv⟩ := h.row
  have hk := h.keep hg
  have hs := h.gr.size
  refine ⟨⟨hk.opr, hk.mem, hk.mem2, ⟨v', held_less hc hs⟩, hk.row2, hk.gr, hk.lo⟩, ⟨v, hv.kept hg, fun g e => .inl (hv.arr.lt e).2⟩, ⟨v', hc, fun g e => (hc.arr.lt e).2⟩, hv.ptr.lt, hc.own, hc.ptr.lt, hs, Nat.le_refl _⟩
/-- The old row turns. -/
theorem Cl.turn {q S N : Nat} {m m' : Int} {M M' : List T.Lf} {v : Value} (h : Cl w T0 t l pm gm pm' gm' bs bs2 p q u most S N n m n2 L M L2 wr) (hv : HAt wr w.heap.size p most v m M) (hvo : ∀ g, v.ownBlock = some g → g < S ∨ N ≤ g) (h1 : T0 ≠ 122) (h2 : T0 ≠ 135) (ht : Turned wr w.heap.size p most v m' M' ws) :
    Cl w T0 t l pm gm pm' gm' bs bs2 p q u most S N n m' n2 L M' L2 ws := by
  obtain ⟨v1, hh, ho, hb⟩ := ht
  obtain ⟨v2, hv2⟩ := h.all.row2
  obtain ⟨vc, hc, hcn⟩ := h.cl
  obtain ⟨o1, o2, o3, o4, o5⟩ := h.ord
  have hc' : HAt ws S q most vc n L := hc.other (T' := 0) (E' := 0) (B' := 0) (m' := 0) (n' := 0) (L' := []) hb (by omega) (fun g e => ⟨by have := (hc.arr.lt e).1; omega, fun e2 => by
    have a1 := (hc.arr.lt e).1
    have a2 := hcn g e
    rcases hvo g e2 with a3 | a3 <;> omega⟩) (fun e => by
    rcases hvo q e.symm with a3 | a3 <;> omega)
  refine ⟨⟨held_row hv hb h.all.opr h1 h2, held_ram hv hb h.all.mem, ⟨held_row hv hb h.all.mem2.ptr (by decide) (by decide), held_row hv hb h.all.mem2.row (by decide) (by decide), h.all.mem2.byt, h.all.mem2.len⟩, ⟨vc, held_less hc' o4⟩,
    ⟨v2, hv2.rows (fun g l hr => held_row hv hb hr (by decide) (by decide)) (fun g l hr => held_row hv hb hr (by decide) (by decide))⟩, but_grown h.all.gr hv (Nat.le_refl _) hb, h.all.lo⟩, ⟨v1, hh, fun g e => ?_⟩, ⟨vc, hc', hcn⟩, o1, o2, o3, o4, Nat.le_trans o5 hb.size⟩
  rcases ho g e with a | a
  · exact hvo g a
  · exact .inr (by omega)
end
theorem and3i (b : Int) : bits .and .i64 b 3 = b % 4 := by
  show IntKind.i64.wrap ((BitVec.ofInt 64 b &&& BitVec.ofInt 64 3).toNat : Int) = _
  rw [BitVec.toNat_and, show (BitVec.ofInt 64 3).toNat = 2 ^ 2 - 1 from rfl, Nat.and_two_pow_sub_one_eq_mod, BitVec.toNat_ofInt, IntKind.wrap_i64]
  rw [show (2 : Nat) ^ 64 = 18446744073709551616 from rfl]
  omega
theorem leaf_c (pt lv : Int) (gb : Bool) (w : World) : Calls Try.prog 27 #[.agg #[.int .u64 pt, .int .i64 lv, .bool gb]] w fun e w' => e = .returned (.agg #[.int .u64 pt, .int .i64 (lv % 4 % 3), .bool gb]) ∧ w.grownBy w' none := by
  have h3 := and3i lv
  have hb : 0 ≤ lv % 4 ∧ lv % 4 < 4 := by omega
  generalize lv % 4 = m at *
  go_enter Try.func27, Try.ntmps27
  go_wp2_with fail
  have hR := fresh_two w (.cells #[.int .u64 pt, .int .i64 (m % 3), .bool gb] 52) 52 [.int .u64 pt, .int .i64 (m % 3), .bool gb]
  exact bodyPost_ret (results_cell_row rfl _ _ (w.heap.size + 1) _ #[.int .u64 pt, .int .i64 (m % 3), .bool gb] (0, 0) _ rfl hR Try.underlying52 rfl (by kernel_rfl)) rfl ⟨rfl, gr_alloc (gr_alloc (gr_refl _ _) _) _⟩
theorem rNew_tlb (most : Int) (hm : I64 most) (w : World) :
    Calls Try.prog 25 #[.int .i64 most] w fun e w' => e = .returned (.pointer (some ⟨w.heap.size, 0, none⟩)) ∧ QT w' w.heap.size (T.mostV most) (.slice none 0 0) 0 [] ∧ w.grownBy w' none := by
  unfold I64 at hm
  have hr := Lib.hid (fun x : Int => Row.fresh w 73 [.int .i64 x, .slice none 0 0, .int .u64 0])
  have hx : ((T.mostV most : Nat) : Int) = min (max most 0) 8 := by unfold T.mostV; omega
  have HX := Lib.hid hx
  clear hx
  go_enter Try.func25, Try.ntmps25
  go_wp2_with fail
  all_goals go_ret
  all_goals refine ⟨rfl, ⟨?_, Or.inl ⟨rfl, rfl⟩, fun k hk => (by cases hk), Nat.zero_le _, T.most_le most, (by decide)⟩, gr_alloc (gr_refl _ _) _⟩
  all_goals rw [HX.out]
  all_goals first
    | (rw [show min (max most 0) 8 = most by omega]; exact hr.out _)
    | (rw [show min (max most 0) 8 = 0 by omega]; exact hr.out _)
    | (rw [show min (max most 0) 8 = 8 by omega]; exact hr.out _)
end Go.Proofs.Ytkfmcbhoendocaa
