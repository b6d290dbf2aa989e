/-
  Things that are done, one after the other: the elements of a slice that came in.
  Conditions: none.
-/
import Derived.Test.YtkfmcbhoendocaaTlbL
import Derived.Test.YtkfmcbhoendocaaTlbN
import Derived.Deep.MidRow
namespace Go.Proofs.Ytkfmcbhoendocaa
open Go Go.RowKit W M D A C P K
set_option linter.unusedVariables false

structure Opn where
  kd : Int
  va : Int
  asid : Int
  pte : Int
  lev : Int
  glob : Bool
  all : Bool
  ev : Bool
  c : Cs
  priv : Int
  how : Int
  at_ : Int
  x : Int
def opC (o : Opn) : List Value := .int .u8 o.kd :: .int .u64 o.va :: .int .u64 o.asid :: .int .u64 o.pte :: .int .i64 o.lev :: .bool o.glob :: .bool o.all :: .bool o.ev :: (lC o.c ++ [.int .i64 o.priv, .int .i64 o.how, .int .u32 o.at_, .int .u64 o.x])
structure OpFine (o : Opn) : Prop where
  kd : 0 ≤ o.kd ∧ o.kd ≤ 255
  va : B64 o.va
  asid : B64 o.asid
  pte : B64 o.pte
  lev : I64 o.lev
  c : C.Good o.c
  priv : I64 o.priv
  how : I64 o.how
  at_ : 0 ≤ o.at_ ∧ o.at_ ≤ 4294967295
  x : B64 o.x
/-- The elements: m of them, twenty-four cells each, below block B. -/
def Ops (w : World) (B : Nat) (A : Option Addr) (m : Nat) (F : Nat → Opn) : Prop :=
  ∀ i, i < m → ∃ ad, A = some ad ∧ ad.block < B ∧ (∀ j, j < 24 → w.cell? (ad.add (i * 24 + j)) = (opC (F i))[j]?) ∧ OpFine (F i)
theorem Ops.turn {w w' : World} {B : Nat} {A : Option Addr} {m : Nat} {F : Nat → Opn} (h : Ops w B A m F) (hk : ∀ a : Addr, a.block < B → w'.cell? a = w.cell? a) : Ops w' B A m F := fun i hi => by
  obtain ⟨ad, e, hb, hc, hf⟩ := h i hi
  exact ⟨ad, e, hb, fun j hj => (hk _ (by rw [add_block]; exact hb)).trans (hc j hj), hf⟩
theorem Ops.go {w w' : World} {A : Option Addr} {m : Nat} {F : Nat → Opn} (h : Ops w w.heap.size A m F) (hg : w.grownBy w' none) : Ops w' w.heap.size A m F := h.turn fun ad had => cell_grown hg had (by simp)
def noOp : Opn := ⟨0, 0, 0, 0, 0, false, false, false, [], 0, 0, 0, 0⟩
theorem pick_op {n : Nat} {Q : Nat → Opn → Prop} (h : ∀ i, i < n → ∃ x, Q i x) : ∃ F : Nat → Opn, ∀ i, i < n → Q i (F i) := by
  refine ⟨fun i => if hi : i < n then Classical.choose (h i hi) else noOp, fun i hi => ?_⟩
  show Q i (if hi : i < n then Classical.choose (h i hi) else noOp)
  rw [dif_pos hi]
  exact Classical.choose_spec (h i hi)
theorem ops_of {w : World} {A : Option Addr} {m : Nat} (el : ∀ i, i < m → ∃ ad, A = some ad ∧ ad.block < w.heap.size ∧ ∃ (x0 : Int) (x1 : Int) (x2 : Int) (x3 : Int) (x4 : Int) (x5 : Bool) (x6 : Bool) (x7 : Bool) (x8 : Int) (x9 : Int) (x10 : Int) (x11 : Int) (x12 : Int) (x13 : Int) (x14 : Int) (x15 : Int) (x16 : Int) (x17 : Int) (x18 : Int) (x19 : Int) (x20 : Int) (x21 : Int) (x22 : Int) (x23 : Int), (w.cell? (ad.add (i * 24 + 0)) = some (.int .u8 x0) ∧ (Lit.int .u8 x0).wf = true) ∧ (w.cell? (ad.add (i * 24 + 1)) = some (.int .u64 x1) ∧ (Lit.int .u64 x1).wf = true) ∧ (w.cell? (ad.add (i * 24 + 2)) = some (.int .u64 x2) ∧ (Lit.int .u64 x2).wf = true) ∧ (w.cell? (ad.add (i * 24 + 3)) = some (.int .u64 x3) ∧ (Lit.int .u64 x3).wf = true) ∧ (w.cell? (ad.add (i * 24 + 4)) = some (.int .i64 x4) ∧ (Lit.int .i64 x4).wf = true) ∧ (w.cell? (ad.add (i * 24 + 5)) = some (.bool x5)) ∧ (w.cell? (ad.add (i * 24 + 6)) = some (.bool x6)) ∧ (w.cell? (ad.add (i * 24 + 7)) = some (.bool x7)) ∧ (w.cell? (ad.add (i * 24 + 8)) = some (.int .u64 x8) ∧ (Lit.int .u64 x8).wf = true) ∧ (w.cell? (ad.add (i * 24 + 9)) = some (.int .u64 x9) ∧ (Lit.int .u64 x9).wf = true) ∧ (w.cell? (ad.add (i * 24 + 10)) = some (.int .u64 x10) ∧ (Lit.int .u64 x10).wf = true) ∧ (w.cell? (ad.add (i * 24 + 11)) = some (.int .u64 x11) ∧ (Lit.int .u64 x11).wf = true) ∧ (w.cell? (ad.add (i * 24 + 12)) = some (.int .u64 x12) ∧ (Lit.int .u64 x12).wf = true) ∧ (w.cell? (ad.add (i * 24 + 13)) = some (.int .u64 x13) ∧ (Lit.int .u64 x13).wf = true) ∧ (w.cell? (ad.add (i * 24 + 14)) = some (.int .u64 x14) ∧ (Lit.int .u64 x14).wf = true) ∧ (w.cell? (ad.add (i * 24 + 15)) = some (.int .u64 x15) ∧ (Lit.int .u64 x15).wf = true) ∧ (w.cell? (ad.add (i * 24 + 16)) = some (.int .u64 x16) ∧ (Lit.int .u64 x16).wf = true) ∧ (w.cell? (ad.add (i * 24 + 17)) = some (.int .u64 x17) ∧ (Lit.int .u64 x17).wf = true) ∧ (w.cell? (ad.add (i * 24 + 18)) = some (.int .u64 x18) ∧ (Lit.int .u64 x18).wf = true) ∧ (w.cell? (ad.add (i * 24 + 19)) = some (.int .u64 x19) ∧ (Lit.int .u64 x19).wf = true) ∧ (w.cell? (ad.add (i * 24 + 20)) = some (.int .i64 x20) ∧ (Lit.int .i64 x20).wf = true) ∧ (w.cell? (ad.add (i * 24 + 21)) = some (.int .i64 x21) ∧ (Lit.int .i64 x21).wf = true) ∧ (w.cell? (ad.add (i * 24 + 22)) = some (.int .u32 x22) ∧ (Lit.int .u32 x22).wf = true) ∧ (w.cell? (ad.add (i * 24 + 23)) = some (.int .u64 x23) ∧ (Lit.int .u64 x23).wf = true)) :
    ∃ F : Nat → Opn, Ops w w.heap.size A m F := by
  obtain ⟨F, hh⟩ := pick_op (n := m) (Q := fun i o => ∃ ad, A = some ad ∧ ad.block < w.heap.size ∧ (∀ j, j < 24 → w.cell? (ad.add (i * 24 + j)) = (opC o)[j]?) ∧ OpFine o) (fun i hi => by
    obtain ⟨ad, e, hb, x0, x1, x2, x3, x4, x5, x6, x7, x8, x9, x10, x11, x12, x13, x14, x15, x16, x17, x18, x19, x20, x21, x22, x23, ⟨h0, b0⟩, ⟨h1, b1⟩, ⟨h2, b2⟩, ⟨h3, b3⟩, ⟨h4, b4⟩, h5, h6, h7, ⟨h8, b8⟩, ⟨h9, b9⟩, ⟨h10, b10⟩, ⟨h11, b11⟩, ⟨h12, b12⟩, ⟨h13, b13⟩, ⟨h14, b14⟩, ⟨h15, b15⟩, ⟨h16, b16⟩, ⟨h17, b17⟩, ⟨h18, b18⟩, ⟨h19, b19⟩, ⟨h20, b20⟩, ⟨h21, b21⟩, ⟨h22, b22⟩, ⟨h23, b23⟩⟩ := el i hi
    refine ⟨⟨x0, x1, x2, x3, x4, x5, x6, x7, [x8, x9, x10, x11, x12, x13, x14, x15, x16, x17, x18, x19], x20, x21, x22, x23⟩, ad, e, hb, fun j hj => ?_, ⟨bounds_u8 b0, bounds_u64 b1, bounds_u64 b2, bounds_u64 b3, bounds_i64 b4, good12 (bounds_u64 b8) (bounds_u64 b9) (bounds_u64 b10) (bounds_u64 b11) (bounds_u64 b12) (bounds_u64 b13) (bounds_u64 b14) (bounds_u64 b15) (bounds_u64 b16) (bounds_u64 b17) (bounds_u64 b18) (bounds_u64 b19), bounds_i64 b20, bounds_i64 b21, bounds_u32 b22, bounds_u64 b23⟩⟩
    obtain rfl | rfl | rfl | rfl | rfl | rfl | rfl | rfl | rfl | rfl | rfl | rfl | rfl | rfl | rfl | rfl | rfl | rfl | rfl | rfl | rfl | rfl | rfl | rfl : j = 0 ∨ j = 1 ∨ j = 2 ∨ j = 3 ∨ j = 4 ∨ j = 5 ∨ j = 6 ∨ j = 7 ∨ j = 8 ∨ j = 9 ∨ j = 10 ∨ j = 11 ∨ j = 12 ∨ j = 13 ∨ j = 14 ∨ j = 15 ∨ j = 16 ∨ j = 17 ∨ j = 18 ∨ j = 19 ∨ j = 20 ∨ j = 21 ∨ j = 22 ∨ j = 23 := by omega
    · exact h0
    · exact h1
    · exact h2
    · exact h3
    · exact h4
    · exact h5
    · exact h6
    · exact h7
    · exact h8
    · exact h9
    · exact h10
    · exact h11
    · exact h12
    · exact h13
    · exact h14
    · exact h15
    · exact h16
    · exact h17
    · exact h18
    · exact h19
    · exact h20
    · exact h21
    · exact h22
    · exact h23)
  exact ⟨F, hh⟩
/-- A struct that is loaded whole, wherever it lies. -/
theorem wpList_load_at {P : Program} {ops : Array Oper} {rest : List Oper} {op : Oper} {a : Act} {w : World} {Q : Exit → Act → World → Prop} (hgd : op.guard = none) (ty : TypeId) (x : Operand) (ho : op.op = .load ty x)
    (ad : Addr) (hx : a.eval x = .pointer (some ad)) (cs : List Value) (d : TypeDesc) (hc : ∀ j v, cs[j]? = some v → w.cell? (ad.add j) = some v)
    (hu : P.underlying ty = some d) (hd : d.isRow = true) (hi : (P.info? ty).map (·.size) = some cs.length)
    (h : wpList P ops Q rest (a.put op.dst (.agg cs.toArray)) w) : wpList P ops Q (op :: rest) a w := by
  refine wpList_plain hgd fun _ hK => ?_
  have hl : (loadCells ad cs.length).run P w = .ok cs.toArray w := run_loadCells_list (P := P) w ad cs hc
  cases hq : P.info? ty with
  | none => simp [hq] at hi
  | some i =>
    have hs : i.size = cs.length := by simpa [hq] using hi
    have hagg : (isAgg ty).run P w = .ok true w := by
      unfold isAgg
      rw [Sem.run_bind, run_underlying hu w]
      cases d <;> simp_all
    have hr : (loadVar ty ad).run P w = .ok (.agg cs.toArray) w := by simp [loadVar, Sem.run_bind, hagg, sizeOf, typeInfo, hq, hs, hl]
    unfold Oper.wp execOp
    simp only [ho, hx, Instr.loadAt, Instr.sureAddr, Sem.run_bind, Sem.run_pure, Result.andThen_ok, hr]
    exact hK _ _ h
/-- A new block that is written whole. -/
theorem fresh_there (w : World) (t : TypeId) (z : List Value) : (w.alloc (.cells z.toArray t)).there w.heap.size 0 z.length := fun j hj => by
  have h := Row.fresh w t z
  rw [Nat.zero_add]
  exact ⟨by rw [h.cell, List.getElem?_eq_getElem hj]; rfl, h.free j⟩
theorem fresh_set (w : World) (t : TypeId) (z vs : List Value) (h : vs.length = z.length) : Row ((w.alloc (.cells z.toArray t)).setCells w.heap.size 0 vs) w.heap.size t vs ∧ w.grownBy ((w.alloc (.cells z.toArray t)).setCells w.heap.size 0 vs) none := by
  have := T.Row_setCells vs 0 _ _ (Row.fresh w t z) (by omega)
  rw [List.take_zero, List.nil_append, Nat.zero_add, h, List.drop_length, List.append_nil] at this
  exact ⟨this, gr_row (T.gr_setCells vs 0 _ (gr_none (gr_alloc (gr_refl w none) _) _)) (Nat.le_refl _)⟩
theorem op_size (o : Opn) (hc : o.c.length = 12) : (Try.prog.info? 54).map (·.size) = some (opC o).length := by
  rw [show (opC o).length = 24 from by unfold opC lC; simp [hc]]
  kernel_rfl
theorem opC_length (o : Opn) (hc : o.c.length = 12) : (opC o).length = 24 := by unfold opC lC; simp [hc]
theorem opC_one (o : Opn) : ∀ v ∈ opC o, v.oneCell' = true := by
  intro v hv
  unfold opC lC at hv
  simp only [List.mem_cons, List.mem_append, List.mem_map, List.not_mem_nil, or_false] at hv
  rcases hv with rfl | rfl | rfl | rfl | rfl | rfl | rfl | rfl | ⟨x, -, rfl⟩ | rfl | rfl | rfl | rfl <;> rfl
/-- What is done, stored into a new variable. -/
theorem wpList_store_op {ops : Array Oper} {rest : List Oper} {op : Oper} {a : Act} {w : World} {Q : Exit → Act → World → Prop} (hgd : op.guard = none) (x y : Operand) (ho : op.op = .store 54 x y)
    (o : Opn) (hc : o.c.length = 12) (z : List Value) (hz : z.length = 24) (hx : a.eval x = .pointer (some ⟨w.heap.size, 0, none⟩)) (hy : a.eval y = .agg (opC o).toArray)
    (h : wpList Try.prog ops Q rest (a.put op.dst undef) ((w.alloc (.cells z.toArray 54)).setCells w.heap.size 0 (opC o))) : wpList Try.prog ops Q (op :: rest) a (w.alloc (.cells z.toArray 54)) := by
  have hl := opC_length o hc
  have ht := fresh_there w 54 z
  rw [hz] at ht
  have hsz : (opC o).toArray.size = 24 := hl
  refine wpList_store_mid hgd 54 x y ho w.heap.size 0 (opC o).toArray hx hy (by rw [hsz]; exact ht) (by rw [hsz]; kernel_rfl) (all_oneCell_toArray (opC_one o)) ?_
  exact h
/-- Registers, stored into a new variable. -/
theorem wpList_store_cs {ops : Array Oper} {rest : List Oper} {op : Oper} {a : Act} {w : World} {Q : Exit → Act → World → Prop} (hgd : op.guard = none) (x y : Operand) (ho : op.op = .store 24 x y)
    (c : Cs) (hc : c.length = 12) (z : List Value) (hz : z.length = 12) (hx : a.eval x = .pointer (some ⟨w.heap.size, 0, none⟩)) (hy : a.eval y = .agg (lC c).toArray)
    (h : wpList Try.prog ops Q rest (a.put op.dst undef) ((w.alloc (.cells z.toArray 24)).setCells w.heap.size 0 (lC c))) : wpList Try.prog ops Q (op :: rest) a (w.alloc (.cells z.toArray 24)) := by
  have hl : (lC c).length = 12 := by unfold lC; simp [hc]
  have ht := fresh_there w 24 z
  rw [hz] at ht
  have hsz : (lC c).toArray.size = 12 := hl
  have h1 : ∀ v ∈ lC c, v.oneCell' = true := by
    intro v hv
    unfold lC at hv
    rw [List.mem_map] at hv
    obtain ⟨x, -, rfl⟩ := hv
    rfl
  refine wpList_store_mid hgd 24 x y ho w.heap.size 0 (lC c).toArray hx hy (by rw [hsz]; exact ht) (by rw [hsz]; kernel_rfl) (all_oneCell_toArray h1) ?_
  exact h
theorem and_7 (a : Int) (ha : 0 ≤ a ∧ a ≤ 255) : bits .and .u8 a 7 = a % 8 := by
  obtain ⟨x, rfl⟩ : ∃ x : Nat, a = x := ⟨a.toNat, by omega⟩
  have h : ∀ x : Nat, x < 256 → bits .and .u8 (x : Int) 7 = (x : Int) % 8 := by decide +kernel
  exact h x (by omega)
end Go.Proofs.Ytkfmcbhoendocaa
