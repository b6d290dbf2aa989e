/-
  The document's own space (package suzerainref13): what it stands on; what an address becomes: contracts over the translation.
  Which real addresses the document's own bytes (package suzerainref13) tells: a contract over the translation.
  What the document's own Load (package suzerainref13) answers: a contract over the translation.
  What the document's own Store (package suzerainref13) writes: a contract over the translation.
  What the document's own Fetch (package suzerainref13) answers; when it says that two rows of addresses are the same: contracts over the translation.
  What stands while SpacePlays goes on: the program's space and the document's, what is done; what each step leaves of it.
  Conditions: each part's own: the arguments are numbers of their kinds; the tables hold what the program's text lays.
-/
import Derived.Test.YtkfmcbhoendocaaLayT
import Derived.Test.YtkfmcbhoendocaaLayS
import Derived.Test.YtkfmcbhoendocaaWalkRT
import Derived.Test.YtkfmcbhoendocaaSpC
import Derived.StillTailTactics
import Derived.Deep.Cut
import Derived.Test.YtkfmcbhoendocaaLayE
import Derived.Test.YtkfmcbhoendocaaLayH
import Derived.Test.YtkfmcbhoendocaaLayB
import Derived.Test.YtkfmcbhoendocaaLayQ
import Derived.Test.YtkfmcbhoendocaaTlbO
section
namespace Go.Proofs.Ytkfmcbhoendocaa
open Go Go.RowKit W M D A C P K
set_option linter.unusedVariables false
set_option linter.unusedSimpArgs false

/-- What was there is there, but for two blocks. -/
structure Fq (u gm : Nat) (w w' : World) : Prop where
  os : w'.os = w.os
  tape : w'.tape = w.tape
  output : w'.output = w.output
  size : w.heap.size ≤ w'.heap.size
  block : ∀ k, k < w.heap.size → k ≠ u → k ≠ gm → w'.heap[k]? = w.heap[k]?
section
variable {w w0 w1 w2 w' : World} {u gm g : Nat}
theorem Fq.refl (u gm : Nat) (w : World) : Fq u gm w w := ⟨rfl, rfl, rfl, Nat.le_refl _, fun _ _ _ _ => rfl⟩
theorem Fq.trans (h : Fq u gm w w1) (k : Fq u gm w1 w2) : Fq u gm w w2 :=
  ⟨k.os.trans h.os, k.tape.trans h.tape, k.output.trans h.output, Nat.le_trans h.size k.size, fun i hi h1 h2 => (k.block i (Nat.lt_of_lt_of_le hi h.size) h1 h2).trans (h.block i hi h1 h2)⟩
theorem Fq.of_none (h : w.grownBy w' none) (u gm : Nat) : Fq u gm w w' := ⟨h.os, h.tape, h.output, h.size, fun k hk _ _ => h.block k hk (by simp)⟩
theorem Fq.of_u (h : w.grownBy w' (some u)) (gm : Nat) : Fq u gm w w' := ⟨h.os, h.tape, h.output, h.size, fun k hk h1 _ => h.block k hk (some_ne h1)⟩
theorem Fq.of_gm (h : w.grownBy w' (some gm)) (u : Nat) : Fq u gm w w' := ⟨h.os, h.tape, h.output, h.size, fun k hk _ h1 => h.block k hk (some_ne h1)⟩
theorem Fq.row {t : TypeId} {l : List Value} (h : Fq u gm w w') (hr : Row w g t l) (h1 : g ≠ u) (h2 : g ≠ gm) : Row w' g t l := (h.block g hr.lt h1 h2).trans hr
theorem Fq.own (h : Fq u gm w w1) (hg : w1.grownBy w2 (some g)) (hs : w.heap.size ≤ g) : Fq u gm w w2 :=
  ⟨hg.os.trans h.os, hg.tape.trans h.tape, hg.output.trans h.output, Nat.le_trans h.size hg.size, fun k hk h1 h2 => (hg.block k (Nat.lt_of_lt_of_le hk h.size) (some_ne (by omega))).trans (h.block k hk h1 h2)⟩
theorem Fq.ownB {o : Option Nat} (h : Fq u gm w w1) (hg : w1.grownBy w2 o) (hs : ∀ g, o = some g → w.heap.size ≤ g) : Fq u gm w w2 := by
  cases o with
  | none => exact h.trans (Fq.of_none hg u gm)
  | some g => exact h.own hg (hs g rfl)
theorem Fq.grown (h : Fq u gm w w') (h0 : w0.grownBy w none) (h1 : w0.heap.size ≤ u) (h2 : w0.heap.size ≤ gm) : w0.grownBy w' none :=
  ⟨h.os.trans h0.os, h.tape.trans h0.tape, h.output.trans h0.output, Nat.le_trans h0.size h.size, fun k hk _ => (h.block k (by have := h0.size; omega) (by omega) (by omega)).trans (h0.block k hk (by simp))⟩
theorem Fq.drew (h : Fq u gm w w') : Fq u gm w w'.drew := ⟨h.os, h.tape, h.output, h.size, h.block⟩
theorem Fq.drewN (h : Fq u gm w w') (n : Nat) : Fq u gm w (w'.drewN n) := ⟨h.os, h.tape, h.output, h.size, h.block⟩
end
/-- What keeps leaves, or does not. -/
def Kp (w : World) (u : Nat) (kp : Bool) (most : Nat) (n : Int) (L : List T.Lf) : Prop := if kp = true then ∃ v, QT w u most v n L else most = 0 ∧ L = []
theorem Kp.fine {w : World} {u : Nat} {kp : Bool} {most : Nat} {n : Int} {L : List T.Lf} (h : Kp w u kp most n L) : ∀ k ∈ L, T.Fine k := by
  unfold Kp at h
  split at h
  · obtain ⟨v, hv⟩ := h; exact hv.fine
  · rw [h.2]; intro k hk; cases hk
/-- The document's space, behind its pointer. -/
structure QS (w : World) (s pm gm : Nat) (bs : List Int) (u : Nat) (kp : Bool) (most : Nat) (n : Int) (L : List T.Lf) : Prop where
  str : Row w s 101 [.pointer (some ⟨pm, 0, none⟩), .pointer (some ⟨u, 0, none⟩), .bool kp]
  mem : QAt w pm gm bs
  ub : ∃ l, Row w u 73 l
  tl : Kp w u kp most n L
section
variable {w ws : World} {s pm gm : Nat} {bs : List Int} {u : Nat} {kp : Bool} {most : Nat} {n n' : Int} {L L' : List T.Lf}
theorem QS.keep (h : QS w s pm gm bs u kp most n L) (hg : w.grownBy ws none) : QS ws s pm gm bs u kp most n L := by
  refine ⟨h.str.grown hg (by simp), h.mem.kept hg, let ⟨l, hl⟩ := h.ub; ⟨l, hl.grown hg (by simp)⟩, ?_⟩
  have := h.tl
  unfold Kp at *
  cases kp
  · exact this
  · obtain ⟨v, hv⟩ := this
    exact ⟨v, hv.kept hg⟩
theorem QS.drew (h : QS w s pm gm bs u kp most n L) : QS w.drew s pm gm bs u kp most n L := h.keep (gr_drew (gr_refl w none))
theorem QS.drewN (h : QS w s pm gm bs u kp most n L) (N : Nat) : QS (w.drewN N) s pm gm bs u kp most n L := h.keep (gr_drewN (gr_refl w none) N)
/-- Another block is written. -/
theorem QS.far {g : Nat} {t : TypeId} {l : List Value} (h : QS w s pm gm bs u kp most n L) (hr : Row w g t l) (h1 : 101 ≠ t) (h2 : 99 ≠ t) (h3 : 5 ≠ t) (h4 : 73 ≠ t) (h5 : 142 ≠ t) (hg : w.grownBy ws (some g)) : QS ws s pm gm bs u kp most n L := by
  refine ⟨h.str.grown hg (some_ne (h.str.apart hr h1)), at_far h.mem hr h2 h3 hg, let ⟨l, hl⟩ := h.ub; ⟨l, hl.grown hg (some_ne (hl.apart hr h4))⟩, ?_⟩
  have := h.tl
  unfold Kp at *
  cases kp
  · exact this
  · obtain ⟨v, hv⟩ := this
    exact ⟨v, hv.rows (fun g' l' hr' => hr'.grown hg (some_ne (hr'.apart hr h4))) (fun g' l' hr' => hr'.grown hg (some_ne (hr'.apart hr h5)))⟩
/-- What keeps leaves has turned. -/
theorem QS.turn (h : QS w s pm gm bs u kp most n L) (hg : w.grownBy ws (some u)) (hr : ∃ l, Row ws u 73 l) (ht : Kp ws u kp most n' L') : QS ws s pm gm bs u kp most n' L' := by
  obtain ⟨l, hl⟩ := h.ub
  exact ⟨h.str.grown hg (some_ne (h.str.apart hl (by decide))), at_far h.mem hl (by decide) (by decide) hg, hr, ht⟩
/-- Memory has turned. -/
theorem QS.wrote {bs' : List Int} (h : QS w s pm gm bs u kp most n L) (hg : w.grownBy ws (some gm)) (hm : QAt ws pm gm bs') : QS ws s pm gm bs' u kp most n L := by
  refine ⟨h.str.grown hg (some_ne (h.str.apart h.mem.row (by decide))), hm, let ⟨l, hl⟩ := h.ub; ⟨l, hl.grown hg (some_ne (hl.apart h.mem.row (by decide)))⟩, ?_⟩
  have := h.tl
  unfold Kp at *
  cases kp
  · exact this
  · obtain ⟨v, hv⟩ := this
    exact ⟨v, hv.rows (fun g' l' hr' => hr'.grown hg (some_ne (hr'.apart h.mem.row (by decide)))) (fun g' l' hr' => hr'.grown hg (some_ne (hr'.apart h.mem.row (by decide))))⟩
/-- A row of another type stands behind a call. -/
theorem QS.row {g : Nat} {t : TypeId} {l : List Value} (h : QS w s pm gm bs u kp most n L) (hr : Row w g t l) (h1 : t ≠ 73) (h2 : t ≠ 5) (hf : Fq u gm w ws) : Row ws g t l := by
  obtain ⟨l', hl⟩ := h.ub
  exact hf.row hr (hr.apart hl h1) (hr.apart h.mem.row h2)
end
/-- What stands while a call goes on: the registers, an empty fault, the space. -/
structure Gs (w : World) (b s pm gm : Nat) (bs : List Int) (c : Cs) (u : Nat) (kp : Bool) (most : Nat) (n : Int) (L : List T.Lf) (wr : World) : Prop where
  csr : Row wr b 24 (lC c)
  flt : Row wr (b + 1) 48 [.bool false, .int .i64 0, .int .u64 0]
  sp : QS wr s pm gm bs u kp most n L
  fr : Fq u gm w wr
  sz : w.heap.size = b
section
variable {w wr ws : World} {b s pm gm : Nat} {bs : List Int} {c : Cs} {u most : Nat} {kp : Bool} {n n' : Int} {L L' : List T.Lf}
theorem Gs.keep (h : Gs w b s pm gm bs c u kp most n L wr) (hg : wr.grownBy ws none) : Gs w b s pm gm bs c u kp most n L ws :=
  ⟨h.csr.grown hg (by simp), h.flt.grown hg (by simp), h.sp.keep hg, h.fr.trans (Fq.of_none hg u gm), h.sz⟩
theorem Gs.turn {bs' : List Int} (h : Gs w b s pm gm bs c u kp most n L wr) (hs : QS ws s pm gm bs' u kp most n' L') (hf : Fq u gm wr ws) : Gs w b s pm gm bs' c u kp most n' L' ws :=
  ⟨h.sp.row h.csr (by decide) (by decide) hf, h.sp.row h.flt (by decide) (by decide) hf, hs, h.fr.trans hf, h.sz⟩
/-- A block of the call's own, behind these two, is written. -/
theorem Gs.far {g : Nat} {t : TypeId} {l : List Value} (h : Gs w b s pm gm bs c u kp most n L wr) (hr : Row wr g t l) (h0 : b + 2 ≤ g) (h1 : 101 ≠ t) (h2 : 99 ≠ t) (h3 : 5 ≠ t) (h4 : 73 ≠ t) (h5 : 142 ≠ t) (hg : wr.grownBy ws (some g)) : Gs w b s pm gm bs c u kp most n L ws :=
  ⟨h.csr.grown hg (some_ne (by omega)), h.flt.grown hg (some_ne (by omega)), h.sp.far hr h1 h2 h3 h4 h5 hg, h.fr.own hg (by have := h.sz; omega), h.sz⟩
/-- The fault is written: the end. -/
theorem Gs.done (h : Gs w b s pm gm bs c u kp most n L wr) (a1 a2 a3 : Value) :
    Row (((wr.setCell ⟨b + 1, 0, none⟩ a1).setCell ⟨b + 1, 1, none⟩ a2).setCell ⟨b + 1, 2, none⟩ a3) (b + 1) 48 [a1, a2, a3] ∧
    QS (((wr.setCell ⟨b + 1, 0, none⟩ a1).setCell ⟨b + 1, 1, none⟩ a2).setCell ⟨b + 1, 2, none⟩ a3) s pm gm bs u kp most n L ∧ Fq u gm w (((wr.setCell ⟨b + 1, 0, none⟩ a1).setCell ⟨b + 1, 1, none⟩ a2).setCell ⟨b + 1, 2, none⟩ a3) := by
  have hg := gr_set3 wr (b + 1) a1 a2 a3
  exact ⟨put3 h.flt a1 a2 a3, h.sp.far h.flt (by decide) (by decide) (by decide) (by decide) (by decide) hg, h.fr.own hg (by have := h.sz; omega)⟩
theorem Gs.start (w : World) (h : QS w s pm gm bs u kp most n L) : Gs w w.heap.size s pm gm bs c u kp most n L ((w.alloc (.cells (lC c).toArray 24)).alloc (.cells #[.bool false, .int .i64 0, .int .u64 0] 48)) := by
  have g := gr_alloc (gr_alloc (gr_refl w none) (.cells (lC c).toArray 24)) (.cells #[.bool false, .int .i64 0, .int .u64 0] 48)
  exact ⟨(Row.fresh w 24 (lC c)).alloc _, rfresh2 w (.cells (lC c).toArray 24) 48 [.bool false, .int .i64 0, .int .u64 0], h.keep g, Fq.of_none g u gm, rfl⟩
theorem Gs.sz2 (h : Gs w b s pm gm bs c u kp most n L wr) : b + 1 < wr.heap.size := h.flt.lt
end
/-- The same, and a second fault. -/
structure G2 (w : World) (b s pm gm : Nat) (bs : List Int) (c : Cs) (u : Nat) (kp : Bool) (most : Nat) (n : Int) (L : List T.Lf) (y : List Value) (wr : World) : Prop extends Gs w b s pm gm bs c u kp most n L wr where
  fl2 : Row wr (b + 2) 48 y
section
variable {w wr ws : World} {b s pm gm : Nat} {bs : List Int} {c : Cs} {u most : Nat} {kp : Bool} {n n' : Int} {L L' : List T.Lf} {y : List Value}
theorem G2.drew (h : G2 w b s pm gm bs c u kp most n L y wr) : G2 w b s pm gm bs c u kp most n L y wr.drew :=
  ⟨h.toGs.keep (gr_drew (gr_refl wr none)), h.fl2.grown (gr_drew (gr_refl wr none)) (by simp)⟩
theorem G2.turn (h : G2 w b s pm gm bs c u kp most n L y wr) (hs : QS ws s pm gm bs u kp most n' L') (hf : Fq u gm wr ws) : G2 w b s pm gm bs c u kp most n' L' y ws :=
  ⟨h.toGs.turn hs hf, h.sp.row h.fl2 (by decide) (by decide) hf⟩
theorem G2.two {y1 y2 y3 : Value} (h : G2 w b s pm gm bs c u kp most n L [y1, y2, y3] wr) (a1 a2 a3 : Value) :
    G2 w b s pm gm bs c u kp most n L [a1, a2, a3] (((wr.setCell ⟨b + 2, 0, none⟩ a1).setCell ⟨b + 2, 1, none⟩ a2).setCell ⟨b + 2, 2, none⟩ a3) :=
  ⟨h.toGs.far h.fl2 (Nat.le_refl _) (by decide) (by decide) (by decide) (by decide) (by decide) (gr_set3 wr (b + 2) a1 a2 a3), put3 h.fl2 a1 a2 a3⟩
theorem G2.start (w : World) (h : QS w s pm gm bs u kp most n L) : G2 w w.heap.size s pm gm bs c u kp most n L [.bool false, .int .i64 0, .int .u64 0] (((w.alloc (.cells (lC c).toArray 24)).alloc (.cells #[.bool false, .int .i64 0, .int .u64 0] 48)).alloc (.cells #[.bool false, .int .i64 0, .int .u64 0] 48)) := by
  have h1 := Gs.start (c := c) w h
  have r3 := rfresh2 (w.alloc (.cells (lC c).toArray 24)) (.cells #[.bool false, .int .i64 0, .int .u64 0] 48) 48 [.bool false, .int .i64 0, .int .u64 0]
  rw [show (w.alloc (.cells (lC c).toArray 24)).heap.size = w.heap.size + 1 from Array.size_push ..] at r3
  exact ⟨h1.keep (gr_alloc (gr_refl _ none) _), r3⟩
end
/-- The call, with what keeps leaves, and without. -/
theorem rKeeps_c {c : Cs} {priv kind va : Int} (hc : C.Good c) (hp : I64 priv) (hk : I64 kind) (hv : B64 va) {w : World} {b s pm gm u most : Nat} {bs : List Int} {L : List T.Lf} {x n n' : Int} {R : Wr} {L' : List T.Lf} {y : List Value} {c' : Cs}
    (hx : T.toRV bs L (gC c 9) (gC c 0) priv kind va = x) (hR : T.toFV bs L (gC c 9) (gC c 0) priv kind va = R) (hL : T.toLV bs most L (gC c 9) (gC c 0) priv kind va = L') (hn : T.toNV L n (gC c 9) (gC c 0) priv kind va = n')
    (W : World) (h : G2 w b s pm gm bs c' u true most n L y W) :
    Calls Try.prog 30 #[.pointer (some ⟨u, 0, none⟩), .pointer (some ⟨pm, 0, none⟩), vC c, .int .i64 priv, .int .i64 kind, .int .u64 va] W fun e w' => e = .returned (.tuple #[.int .u64 x, .agg #[.bool R.isf, .int .i64 R.cause, .int .u64 R.val]]) ∧ G2 w b s pm gm bs c' u true most n' L' y w' := by
  obtain ⟨v, hv'⟩ : ∃ v, QT W u most v n L := h.sp.tl
  subst hx hR hL hn
  refine (rTTo_c put_does pm gm bs c hc priv kind va hp hk hv u most v n L W h.sp.mem hv').mono ?_
  rintro e w' ⟨rfl, ⟨v', hT⟩, hG⟩
  exact ⟨rfl, h.turn (h.sp.turn hG ⟨_, hT.ptr⟩ ⟨v', hT⟩) (Fq.of_u hG gm)⟩
theorem rWalks_c {c : Cs} {priv kind va : Int} (hc : C.Good c) (hp : I64 priv) (hk : I64 kind) (hv : B64 va) {w : World} {b s pm gm u most : Nat} {bs : List Int} {L : List T.Lf} {x n n' : Int} {R : Wr} {L' : List T.Lf} {y : List Value} {c' : Cs}
    (hx : T.toRV bs L (gC c 9) (gC c 0) priv kind va = x) (hR : T.toFV bs L (gC c 9) (gC c 0) priv kind va = R) (hL : T.toLV bs most L (gC c 9) (gC c 0) priv kind va = L')
    (W : World) (h : G2 w b s pm gm bs c' u false most n L y W) :
    Calls Try.prog 81 #[.pointer (some ⟨pm, 0, none⟩), vC c, .int .i64 priv, .int .i64 kind, .int .u64 va] W fun e w' => e = .returned (.tuple #[.int .u64 x, .agg #[.bool R.isf, .int .i64 R.cause, .int .u64 R.val]]) ∧ G2 w b s pm gm bs c' u false most n' L' y w' := by
  obtain ⟨h0, rfl⟩ : most = 0 ∧ L = [] := h.sp.tl
  subst h0
  rw [nil_R] at hx
  rw [nil_F] at hR
  rw [nil_L] at hL
  subst hx hR hL
  refine (rTo_c pm gm bs c hc priv kind va hp hk hv W h.sp.mem).mono ?_
  rintro e w' ⟨rfl, hG⟩
  have h1 := h.sp.keep hG
  exact ⟨rfl, h.turn ⟨h1.str, h1.mem, h1.ub, ⟨rfl, rfl⟩⟩ (Fq.of_none hG u gm)⟩
set_option maxRecDepth 100000 in
set_option maxHeartbeats 8000000 in
theorem rSTo_c (s pm gm : Nat) (bs : List Int) (c : Cs) (hc : C.Good c) (priv kind va m : Int) (hp : I64 priv) (hk : I64 kind) (hv : B64 va) (hm : I64 m) (u : Nat) (kp : Bool) (most : Nat) (n : Int) (L : List T.Lf) (w : World) (h : QS w s pm gm bs u kp most n L) :
    Calls Try.prog 37 #[.pointer (some ⟨s, 0, none⟩), vC c, .int .i64 priv, .int .i64 kind, .int .u64 va, .int .i64 m] w fun e w' => e = .returned (.tuple #[.int .u64 (S.sR bs L (gC c 9) (gC c 0) priv kind va m), vF (S.sF bs L (gC c 9) (gC c 0) priv kind va m)]) ∧ QS w' s pm gm bs u kp most (T.toNV L n (gC c 9) (gC c 0) priv kind va) (T.toLV bs most L (gC c 9) (gC c 0) priv kind va) ∧ Fq u gm w w' := by
  have HF0 := Lib.hid (G2.start (c := c) w h)
  have hx64 := toR_64 (sa := gC c 9) (st := gC c 0) (priv := priv) (kind := kind) h.tl.fine h.mem.byt hv
  have hcalm := toF_calm bs L (gC c 9) (gC c 0) priv kind va
  obtain ⟨X, hX⟩ : ∃ X, X = S.sR bs L (gC c 9) (gC c 0) priv kind va m := ⟨_, rfl⟩
  obtain ⟨Y, hY⟩ : ∃ Y, Y = S.sF bs L (gC c 9) (gC c 0) priv kind va m := ⟨_, rfl⟩
  rw [← hX, ← hY]
  unfold S.sR at hX
  rw [← hY] at hX
  unfold S.sF at hY
  obtain ⟨x, hx⟩ : ∃ x, T.toRV bs L (gC c 9) (gC c 0) priv kind va = x := ⟨_, rfl⟩
  obtain ⟨R, hR⟩ : ∃ x, T.toFV bs L (gC c 9) (gC c 0) priv kind va = x := ⟨_, rfl⟩
  obtain ⟨L', hL⟩ : ∃ x, T.toLV bs most L (gC c 9) (gC c 0) priv kind va = x := ⟨_, rfl⟩
  obtain ⟨n', hn⟩ : ∃ x, T.toNV L n (gC c 9) (gC c 0) priv kind va = x := ⟨_, rfl⟩
  have TOT := Lib.hid (fun (W : World) hW => rKeeps_c (w := w) (b := w.heap.size) (s := s) (pm := pm) (gm := gm) (u := u) (n := n) (n' := n') (y := [.bool false, .int .i64 0, .int .u64 0]) (c' := c) hc hp hk hv hx hR hL hn W hW)
  have TON := Lib.hid (fun (W : World) hW => rWalks_c (w := w) (b := w.heap.size) (s := s) (pm := pm) (gm := gm) (u := u) (n := n) (n' := n') (y := [.bool false, .int .i64 0, .int .u64 0]) (c' := c) hc hp hk hv hx hR hL W hW)
  rw [hx] at hx64
  rw [hR] at hcalm
  rw [hx] at hX
  rw [hx, hR] at hY
  rw [hL, hn]
  have NA := Lib.hid (fun W => rNone_c kind va hk W)
  unfold vFault at NA
  have HA := Lib.hid (fun W hW => rHas_c pm gm bs x m W hW hx64 hm)
  clear h hx hR hL hn
  obtain ⟨pt, lv, gb, isf, ca, vl⟩ := R
  unfold vF vFault
  simp only at TOT TON hY
  unfold K.Calm at hcalm
  simp only at hcalm
  have HCM := Lib.hid hcalm
  obtain ⟨a0, a1, a2, a3, a4, a5, a6, a7, a8, a9, a10, a11, rfl⟩ := twelve hc.1
  rw [show vC [a0, a1, a2, a3, a4, a5, a6, a7, a8, a9, a10, a11] = .agg #[.int .u64 a0, .int .u64 a1, .int .u64 a2, .int .u64 a3, .int .u64 a4, .int .u64 a5, .int .u64 a6, .int .u64 a7, .int .u64 a8, .int .u64 a9, .int .u64 a10, .int .u64 a11] from rfl] at *
  unfold I64 at hp hk hm
  unfold B64 at hv hx64
  clear hc
  have HXY := Lib.hid (And.intro hX hY)
  clear hcalm hX hY
  go_enter Try.func37, Try.ntmps37
  go_upto_region 3 with (fail)
  have hF := HF0.out
  unfold lC at hF
  simp only [List.map_cons, List.map_nil] at hF
  have hF : G2 w w.heap.size s pm gm bs [a0, a1, a2, a3, a4, a5, a6, a7, a8, a9, a10, a11] u kp most n L [.bool false, .int .i64 0, .int .u64 0] (((w.alloc (.cells #[.int .u64 a0, .int .u64 a1, .int .u64 a2, .int .u64 a3, .int .u64 a4, .int .u64 a5, .int .u64 a6, .int .u64 a7, .int .u64 a8, .int .u64 a9, .int .u64 a10, .int .u64 a11] 24)).alloc (.cells #[.bool false, .int .i64 0, .int .u64 0] 48)).alloc (.cells #[.bool false, .int .i64 0, .int .u64 0] 48)) := hF
  generalize (((w.alloc (.cells #[.int .u64 a0, .int .u64 a1, .int .u64 a2, .int .u64 a3, .int .u64 a4, .int .u64 a5, .int .u64 a6, .int .u64 a7, .int .u64 a8, .int .u64 a9, .int .u64 a10, .int .u64 a11] 24)).alloc (.cells #[.bool false, .int .i64 0, .int .u64 0] 48)).alloc (.cells #[.bool false, .int .i64 0, .int .u64 0] 48)) = V at *
  generalize hbb : w.heap.size = b at *
  have k0 : V.cell? ⟨b, 0, none⟩ = some (.int .u64 a0) := hF.csr.cell 0
  have k1 : V.cell? ⟨b, 1, none⟩ = some (.int .u64 a1) := hF.csr.cell 1
  have k2 : V.cell? ⟨b, 2, none⟩ = some (.int .u64 a2) := hF.csr.cell 2
  have k3 : V.cell? ⟨b, 3, none⟩ = some (.int .u64 a3) := hF.csr.cell 3
  have k4 : V.cell? ⟨b, 4, none⟩ = some (.int .u64 a4) := hF.csr.cell 4
  have k5 : V.cell? ⟨b, 5, none⟩ = some (.int .u64 a5) := hF.csr.cell 5
  have k6 : V.cell? ⟨b, 6, none⟩ = some (.int .u64 a6) := hF.csr.cell 6
  have k7 : V.cell? ⟨b, 7, none⟩ = some (.int .u64 a7) := hF.csr.cell 7
  have k8 : V.cell? ⟨b, 8, none⟩ = some (.int .u64 a8) := hF.csr.cell 8
  have k9 : V.cell? ⟨b, 9, none⟩ = some (.int .u64 a9) := hF.csr.cell 9
  have k10 : V.cell? ⟨b, 10, none⟩ = some (.int .u64 a10) := hF.csr.cell 10
  have k11 : V.cell? ⟨b, 11, none⟩ = some (.int .u64 a11) := hF.csr.cell 11
  have ltb := hF.csr.lt
  have s0 := hF.sp.str.cell 0
  have s1 := hF.sp.str.cell 1
  have s2 := hF.sp.str.cell 2
  simp only [List.getElem?_cons_zero, List.getElem?_cons_succ] at s0 s1 s2
  have ls := hF.sp.str.lt
  have HF := Lib.hid hF
  clear hF hbb
  cases kp
  · have TO := TON
    clear TON TOT
    clear HF0
    go_wp2_with fail
    go_region_with (go_at_call 81; refine (TO.out _ HF.out.drew).mono ?_; rintro e w1 ⟨rfl, hF1⟩; have fy := hF1.fl2.free; have lt := hF1.fl2.lt; obtain ⟨z0, z1, z2⟩ := cells3q hF1.fl2; have HF1 := Lib.hid hF1; clear hF1 HF TO k0 k1 k2 k3 k4 k5 k6 k7 k8 k9 k10 k11 ltb s0 s1 s2 ls)
    all_goals
      have hF := HF1.out.two (.bool isf) (.int .i64 ca) (.int .u64 vl)
      clear HF1 fy lt z0 z1 z2
      generalize (((w1.setCell ⟨b + 2, 0, none⟩ (.bool isf)).setCell ⟨b + 2, 1, none⟩ (.int .i64 ca)).setCell ⟨b + 2, 2, none⟩ (.int .u64 vl)) = V1 at *
      obtain ⟨y0, y1, y2⟩ := cells3q hF.fl2
      obtain ⟨z0, z1, z2⟩ := cells3q hF.flt
      have fy := hF.flt.free
      have lt := hF.flt.lt
      have lt2 := hF.fl2.lt
      have s0 := hF.sp.str.cell 0
      simp only [List.getElem?_cons_zero] at s0
      have ls := hF.sp.str.lt
      cases isf
      · obtain ⟨rfl, rfl⟩ := HCM.out.1 rfl
        have HF2 := Lib.hid hF
        clear hF
        go_wp2_with fail
        refine (HA.out _ HF2.out.sp.mem).mono ?_
        rintro e w2 ⟨rfl, rfl⟩
        cases hh : hasB bs.length x m
        · go_wp2_with fail
          refine (NA.out _).mono ?_
          rintro e w2 ⟨rfl, hG⟩
          have hF3 := HF2.out.keep hG
          obtain ⟨z0, z1, z2⟩ := cells3q hF3.flt
          have fy := hF3.flt.free
          have lt := hF3.flt.lt
          have dn := Lib.hid (hF3.done (.bool true) (.int .i64 (naC kind)) (.int .u64 va))
          clear hF3 HF2 hG
          go_wp2_with fail
          exact ret_IF (b := true) (c := naC kind) (v := va) rfl rfl rfl rfl dn.out.1 ⟨by rw [HXY.out.1, HXY.out.2]; simp [faultV, vFault, hh], dn.out.2⟩
        · have dn := Lib.hid (HF2.out.done (.bool false) (.int .i64 0) (.int .u64 0))
          clear HF2
          go_wp2_with fail
          go_region
          all_goals
            go_wp2_with fail
            exact ret_IF (b := false) (c := 0) (v := 0) rfl rfl rfl rfl (dn.out.1.grown (gr_drew (gr_refl _ none)) (by simp)) ⟨by rw [HXY.out.1, HXY.out.2]; simp [foundV, vFault, hh], dn.out.2.1.drew, dn.out.2.2.drew⟩
      · have dn := Lib.hid (hF.done (.bool true) (.int .i64 ca) (.int .u64 vl))
        clear hF HA NA
        go_wp2_with fail
        go_region
        all_goals
          go_wp2_with fail
          exact ret_IF (b := true) (c := ca) (v := vl) rfl rfl rfl rfl (dn.out.1.grown (gr_drew (gr_refl _ none)) (by simp)) ⟨by rw [HXY.out.1, HXY.out.2]; simp [vFault], dn.out.2.1.drew, dn.out.2.2.drew⟩
  · have TO := TOT
    clear TON TOT
    clear HF0
    go_wp2_with fail
    go_region_with (go_at_call 30; refine (TO.out _ HF.out.drew).mono ?_; rintro e w1 ⟨rfl, hF1⟩; have fy := hF1.fl2.free; have lt := hF1.fl2.lt; obtain ⟨z0, z1, z2⟩ := cells3q hF1.fl2; have HF1 := Lib.hid hF1; clear hF1 HF TO k0 k1 k2 k3 k4 k5 k6 k7 k8 k9 k10 k11 ltb s0 s1 s2 ls)
    all_goals
      have hF := HF1.out.two (.bool isf) (.int .i64 ca) (.int .u64 vl)
      clear HF1 fy lt z0 z1 z2
      generalize (((w1.setCell ⟨b + 2, 0, none⟩ (.bool isf)).setCell ⟨b + 2, 1, none⟩ (.int .i64 ca)).setCell ⟨b + 2, 2, none⟩ (.int .u64 vl)) = V1 at *
      obtain ⟨y0, y1, y2⟩ := cells3q hF.fl2
      obtain ⟨z0, z1, z2⟩ := cells3q hF.flt
      have fy := hF.flt.free
      have lt := hF.flt.lt
      have lt2 := hF.fl2.lt
      have s0 := hF.sp.str.cell 0
      simp only [List.getElem?_cons_zero] at s0
      have ls := hF.sp.str.lt
      cases isf
      · obtain ⟨rfl, rfl⟩ := HCM.out.1 rfl
        have HF2 := Lib.hid hF
        clear hF
        go_wp2_with fail
        refine (HA.out _ HF2.out.sp.mem).mono ?_
        rintro e w2 ⟨rfl, rfl⟩
        cases hh : hasB bs.length x m
        · go_wp2_with fail
          refine (NA.out _).mono ?_
          rintro e w2 ⟨rfl, hG⟩
          have hF3 := HF2.out.keep hG
          obtain ⟨z0, z1, z2⟩ := cells3q hF3.flt
          have fy := hF3.flt.free
          have lt := hF3.flt.lt
          have dn := Lib.hid (hF3.done (.bool true) (.int .i64 (naC kind)) (.int .u64 va))
          clear hF3 HF2 hG
          go_wp2_with fail
          exact ret_IF (b := true) (c := naC kind) (v := va) rfl rfl rfl rfl dn.out.1 ⟨by rw [HXY.out.1, HXY.out.2]; simp [faultV, vFault, hh], dn.out.2⟩
        · have dn := Lib.hid (HF2.out.done (.bool false) (.int .i64 0) (.int .u64 0))
          clear HF2
          go_wp2_with fail
          go_region
          all_goals
            go_wp2_with fail
            exact ret_IF (b := false) (c := 0) (v := 0) rfl rfl rfl rfl (dn.out.1.grown (gr_drew (gr_refl _ none)) (by simp)) ⟨by rw [HXY.out.1, HXY.out.2]; simp [foundV, vFault, hh], dn.out.2.1.drew, dn.out.2.2.drew⟩
      · have dn := Lib.hid (hF.done (.bool true) (.int .i64 ca) (.int .u64 vl))
        clear hF HA NA
        go_wp2_with fail
        go_region
        all_goals
          go_wp2_with fail
          exact ret_IF (b := true) (c := ca) (v := vl) rfl rfl rfl rfl (dn.out.1.grown (gr_drew (gr_refl _ none)) (by simp)) ⟨by rw [HXY.out.1, HXY.out.2]; simp [vFault], dn.out.2.1.drew, dn.out.2.2.drew⟩
end Go.Proofs.Ytkfmcbhoendocaa
end

section
namespace Go.Proofs.Ytkfmcbhoendocaa
open Go Go.RowKit W M D A C P K
set_option linter.unusedVariables false
set_option linter.unusedSimpArgs false

theorem infoW : (Try.prog.info? 22).map (fun i => (i.zero, i.size, i.bytes)) = some (some (.int .u64 0), 1, 8) := by kernel_rfl
/-- The slice owns these numbers. -/
def NArr (w : World) (lo : Nat) (v : Value) (all : List Int) : Prop := w.ownsRow lo 22 1 v all.length (wrds all)
section
variable {w w' : World} {lo : Nat} {v : Value} {all : List Int}
theorem NArr.parts (h : NArr w lo v all) : (v = .slice none 0 0 ∧ all = []) ∨ ∃ g cap cur, v = .slice (some ⟨g, 0, none⟩) all.length cap ∧ lo ≤ g ∧ Row w g 22 cur ∧ all.length ≤ cap ∧ cap ≤ maxLen ∧ cur.length = cap ∧ cur.take all.length = wrds all := by
  rcases h.2 with ⟨h1, h2⟩ | ⟨g, cap, cur, h1, h2, h3, h4, h5, h6, h7⟩
  · exact .inl ⟨h1, List.eq_nil_of_length_eq_zero h2⟩
  · exact .inr ⟨g, cap, cur.toList, h1, h2, show w.heap[g]? = some (.cells cur.toList.toArray 22 (0, 0)) by rw [Array.toArray_toList]; exact h3, h4, h5, by simpa using h6, by simpa using h7⟩
theorem NArr.of {g cap : Nat} {cur : List Value} (hg : lo ≤ g) (hr : Row w g 22 cur) (h1 : all.length ≤ cap) (h2 : cap ≤ maxLen) (h3 : cur.length = cap) (h4 : cur.take all.length = wrds all) : NArr w lo (.slice (some ⟨g, 0, none⟩) all.length cap) all :=
  ⟨by rw [wrds_length, Nat.mul_one], .inr ⟨g, cap, cur.toArray, rfl, hg, hr, h1, h2, by simpa using h3, by simpa using h4⟩⟩
theorem NArr.nil (w : World) (lo : Nat) : NArr w lo (.slice none 0 0) [] := World.ownsRow_nil w lo _ 1
theorem NArr.keep {row : Option Nat} (h : NArr w lo v all) (hg : w.grownBy w' row) (hn : v.ownBlock = none ∨ v.ownBlock ≠ row) : NArr w' lo v all := World.ownsRow.kept h hg hn
theorem NArr.kept (h : NArr w lo v all) (hg : w.grownBy w' none) : NArr w' lo v all := h.keep hg (by cases v.ownBlock <;> simp)
theorem NArr.far {g : Nat} {t : TypeId} {l : List Value} (h : NArr w lo v all) (hr : Row w g t l) (ht : t ≠ 22) (hg : w.grownBy w' (some g)) : NArr w' lo v all := by
  rcases h.parts with ⟨rfl, rfl⟩ | ⟨g', cap, cur, rfl, h1, h2, h3, h4, h5, h6⟩
  · exact NArr.nil w' lo
  · exact NArr.of h1 (h2.grown hg (some_ne (h2.apart hr (fun e => ht e.symm)))) h3 h4 h5 h6
theorem NArr.less {lo' : Nat} (h : NArr w lo v all) (hl : lo' ≤ lo) : NArr w lo' v all := by
  rcases h.parts with ⟨rfl, rfl⟩ | ⟨g', cap, cur, rfl, h1, h2, h3, h4, h5, h6⟩
  · exact NArr.nil w lo'
  · exact NArr.of (by omega) h2 h3 h4 h5 h6
/-- The numbers stand behind a call. -/
theorem QS.nums {s pm gm : Nat} {bs : List Int} {u : Nat} {kp : Bool} {most : Nat} {n : Int} {L : List T.Lf} (h : QS w s pm gm bs u kp most n L) (ha : NArr w lo v all) (hf : Fq u gm w w') : NArr w' lo v all := by
  rcases ha.parts with ⟨rfl, rfl⟩ | ⟨g', cap, cur, rfl, h1, h2, h3, h4, h5, h6⟩
  · exact NArr.nil w' lo
  · exact NArr.of h1 (h.row h2 (by decide) (by decide) hf) h3 h4 h5 h6
theorem NArr.cell {k : Nat} (h : NArr w lo v all) (hk : k < all.length) : ∃ g cap, v = .slice (some ⟨g, 0, none⟩) all.length cap ∧ lo ≤ g ∧ g < w.heap.size ∧ w.cell? ⟨g, k, none⟩ = some (.int .u64 (all.getD k 0)) := by
  rcases h.parts with ⟨rfl, rfl⟩ | ⟨g', cap, cur, rfl, h1, h2, h3, h4, h5, h6⟩
  · exact absurd hk (by simp)
  · refine ⟨g', cap, rfl, h1, h2.lt, ?_⟩
    have h7 : (wrds all)[k]? = some (.int .u64 (all.getD k 0)) := by simp [wrds, List.getD, List.getElem?_eq_getElem hk]
    rw [h2.cell, ← h7, ← h6, List.getElem?_take_of_lt hk]
/-- The call's own two rows, when a row of numbers turns. -/
theorem Gs.app {wr ws : World} {b s pm gm : Nat} {bs : List Int} {c : Cs} {u most : Nat} {kp : Bool} {n : Int} {L : List T.Lf} (h : Gs w b s pm gm bs c u kp most n L wr) (ha : NArr wr (b + 2) v all) (hg : wr.grownBy ws v.ownBlock) : Gs w b s pm gm bs c u kp most n L ws := by
  rcases ha.parts with ⟨rfl, rfl⟩ | ⟨g', cap, cur, rfl, h1, h2, h3, h4, h5, h6⟩
  · exact h.keep hg
  · exact h.far h2 h1 (by decide) (by decide) (by decide) (by decide) (by decide) hg
theorem row_app {wr ws : World} {g : Nat} {t : TypeId} {l : List Value} (hr : Row wr g t l) (ht : t ≠ 22) (ha : NArr wr lo v all) (hg : wr.grownBy ws v.ownBlock) : Row ws g t l := by
  rcases ha.parts with ⟨rfl, rfl⟩ | ⟨g', cap, cur, rfl, h1, h2, h3, h4, h5, h6⟩
  · exact hr.grown hg (by simp [Value.ownBlock])
  · exact hr.grown hg (some_ne (hr.apart h2 ht))
end
theorem wrds_app (l : List Int) (x : Int) : wrds (l ++ [x]) = wrds l ++ [.int .u64 x] := by simp [wrds]
/-- A number has been appended. -/
theorem num_fin {w wc w' : World} {b s pm gm : Nat} {bs : List Int} {c : Cs} {u most : Nat} {kp : Bool} {n : Int} {L : List T.Lf} {v : Value} {all : List Int} {x : Int} {g cap : Nat} {ob : Obj}
    (hF : Gs w b s pm gm bs c u kp most n L wc) (hA : NArr wc (b + 2) v all)
    (hown : w'.ownsRow (b + 2) 22 1 (.slice (some ⟨g, 0, none⟩) (all.length + 1) cap) (all.length + 1) (wrds all ++ [.int .u64 x])) (hgr : (wc.alloc ob).grownBy w' v.ownBlock) :
    NArr w' (b + 2) (.slice (some ⟨g, 0, none⟩) (all.length + 1) cap) (all ++ [x]) ∧ Gs w b s pm gm bs c u kp most n L w' ∧ (∀ {q : Nat} {t : TypeId} {l : List Value}, Row wc q t l → t ≠ 22 → Row w' q t l) := by
  have hg := gr_alloc (gr_refl wc none) ob
  refine ⟨?_, (hF.keep hg).app (hA.kept hg) hgr, fun hr ht => row_app (hr.grown hg (by simp)) ht (hA.kept hg) hgr⟩
  unfold NArr
  rw [wrds_app, List.length_append]
  exact hown
/-- What stands at the beginning. -/
theorem nums_start (w : World) {s pm gm : Nat} {bs : List Int} {c : Cs} {u most : Nat} {kp : Bool} {n : Int} {L : List T.Lf} (h : QS w s pm gm bs u kp most n L) :
    Gs w w.heap.size s pm gm bs c u kp most n L (((w.alloc (.cells (lC c).toArray 24)).alloc (.cells #[.bool false, .int .i64 0, .int .u64 0] 48)).alloc (.cells #[] 22)) ∧
    NArr (((w.alloc (.cells (lC c).toArray 24)).alloc (.cells #[.bool false, .int .i64 0, .int .u64 0] 48)).alloc (.cells #[] 22)) (w.heap.size + 2) (.slice (some ⟨w.heap.size + 1 + 1, 0, none⟩) 0 0) [] := by
  have h1 := Gs.start (c := c) w h
  have r3 := rfresh2 (w.alloc (.cells (lC c).toArray 24)) (.cells #[.bool false, .int .i64 0, .int .u64 0] 48) 22 []
  rw [show (w.alloc (.cells (lC c).toArray 24)).heap.size = w.heap.size + 1 from Array.size_push ..] at r3
  exact ⟨h1.keep (gr_alloc (gr_refl _ none) _), NArr.of (all := []) (cap := 0) (cur := []) (Nat.le_refl _) r3 (Nat.le_refl _) (by decide) rfl rfl⟩
theorem front_done (acc : List Int) (bs : List Int) (most : Nat) (sa st priv kind va : Int) (i : Nat) (L : List T.Lf) (n : Int) : S.inFront acc (S.runV bs most sa st priv kind va 0 i L n) = ⟨foundV 0 0 false, acc, L, n⟩ := by unfold S.inFront S.runV; simp [foundV]
set_option maxRecDepth 100000 in
set_option maxHeartbeats 8000000 in
theorem rbytes_c (s pm gm : Nat) (bs : List Int) (c : Cs) (hc : C.Good c) (priv kind va : Int) (m : Nat) (hp : I64 priv) (hk : I64 kind) (hv : B64 va) (hm : m = 1 ∨ m = 2 ∨ m = 4 ∨ m = 8) (u : Nat) (kp : Bool) (most : Nat) (n : Int) (L : List T.Lf) (w : World) (h : QS w s pm gm bs u kp most n L) (r : S.Ans) (hr : S.realsV bs most (gC c 9) (gC c 0) priv kind va m L n = r) :
    Calls Try.prog 84 #[.pointer (some ⟨s, 0, none⟩), vC c, .int .i64 priv, .int .i64 kind, .int .u64 va, .int .i64 m] w fun e w' => ∃ v, e = .returned (.tuple #[v, vF r.f]) ∧ NArr w' (w.heap.size + 2) v r.all ∧ (∀ a ∈ r.all, B64 a) ∧ r.all.length ≤ 8 ∧ QS w' s pm gm bs u kp most r.n r.L ∧ Fq u gm w w' := by
  have hm8 : 1 ≤ m ∧ m ≤ 8 := by omega
  have TO := Lib.hid (fun va m hv hm L n W hW => rSTo_c s pm gm bs c hc priv kind va m hp hk hv hm u kp most n L W hW)
  have HF0 := Lib.hid (nums_start (c := c) w h)
  have HCM := Lib.hid (fun L va m => sF_calm bs L (gC c 9) (gC c 0) priv kind va m)
  have HIT := Lib.hid (fun k i L n acc h => run_hit (bs := bs) (most := most) (sa := gC c 9) (st := gC c 0) (priv := priv) (kind := kind) (va := va) (k := k) (i := i) (L := L) (n := n) acc h)
  have HON := Lib.hid (fun k i L n acc h => run_on (bs := bs) (most := most) (sa := gC c 9) (st := gC c 0) (priv := priv) (kind := kind) (va := va) (k := k) (i := i) (L := L) (n := n) acc h)
  have HFD := Lib.hid (fun acc i L n => front_done acc bs most (gC c 9) (gC c 0) priv kind va i L n)
  unfold S.realsV at hr
  have HRR := Lib.hid hr
  clear hr h
  obtain ⟨i0, hi0, hz0, hs0, hb0⟩ := info_parts infoW
  have HI := Lib.hid (And.intro hi0 (And.intro hz0 (And.intro hs0 hb0)))
  clear hi0 hz0 hs0 hb0
  have HV64 := Lib.hid hv
  have hsa := gC c 9
  unfold vF vFault at TO ⊢
  generalize gC c 9 = sa at *
  generalize gC c 0 = st at *
  obtain ⟨a0, a1, a2, a3, a4, a5, a6, a7, a8, a9, a10, a11, rfl⟩ := twelve hc.1
  rw [show vC [a0, a1, a2, a3, a4, a5, a6, a7, a8, a9, a10, a11] = .agg #[.int .u64 a0, .int .u64 a1, .int .u64 a2, .int .u64 a3, .int .u64 a4, .int .u64 a5, .int .u64 a6, .int .u64 a7, .int .u64 a8, .int .u64 a9, .int .u64 a10, .int .u64 a11] from rfl] at *
  unfold I64 at hp hk
  unfold B64 at hv
  clear hc hsa
  go_enter Try.func84, Try.ntmps84
  go_upto_region 2 with (fail)
  have hF := HF0.out
  unfold lC at hF
  simp only [List.map_cons, List.map_nil] at hF
  have hF : Gs w w.heap.size s pm gm bs [a0, a1, a2, a3, a4, a5, a6, a7, a8, a9, a10, a11] u kp most n L (((w.alloc (.cells #[.int .u64 a0, .int .u64 a1, .int .u64 a2, .int .u64 a3, .int .u64 a4, .int .u64 a5, .int .u64 a6, .int .u64 a7, .int .u64 a8, .int .u64 a9, .int .u64 a10, .int .u64 a11] 24)).alloc (.cells #[.bool false, .int .i64 0, .int .u64 0] 48)).alloc (.cells #[] 22)) ∧ NArr (((w.alloc (.cells #[.int .u64 a0, .int .u64 a1, .int .u64 a2, .int .u64 a3, .int .u64 a4, .int .u64 a5, .int .u64 a6, .int .u64 a7, .int .u64 a8, .int .u64 a9, .int .u64 a10, .int .u64 a11] 24)).alloc (.cells #[.bool false, .int .i64 0, .int .u64 0] 48)).alloc (.cells #[] 22)) (w.heap.size + 2) (.slice (some ⟨w.heap.size + 1 + 1, 0, none⟩) 0 0) [] := hF
  generalize (((w.alloc (.cells #[.int .u64 a0, .int .u64 a1, .int .u64 a2, .int .u64 a3, .int .u64 a4, .int .u64 a5, .int .u64 a6, .int .u64 a7, .int .u64 a8, .int .u64 a9, .int .u64 a10, .int .u64 a11] 24)).alloc (.cells #[.bool false, .int .i64 0, .int .u64 0] 48)).alloc (.cells #[] 22)) = V at *
  generalize hbb : w.heap.size = b at *
  have HBB := Lib.hid hbb
  clear hbb HF0
  have k0 : V.cell? ⟨b, 0, none⟩ = some (.int .u64 a0) := hF.1.csr.cell 0
  have k1 : V.cell? ⟨b, 1, none⟩ = some (.int .u64 a1) := hF.1.csr.cell 1
  have k2 : V.cell? ⟨b, 2, none⟩ = some (.int .u64 a2) := hF.1.csr.cell 2
  have k3 : V.cell? ⟨b, 3, none⟩ = some (.int .u64 a3) := hF.1.csr.cell 3
  have k4 : V.cell? ⟨b, 4, none⟩ = some (.int .u64 a4) := hF.1.csr.cell 4
  have k5 : V.cell? ⟨b, 5, none⟩ = some (.int .u64 a5) := hF.1.csr.cell 5
  have k6 : V.cell? ⟨b, 6, none⟩ = some (.int .u64 a6) := hF.1.csr.cell 6
  have k7 : V.cell? ⟨b, 7, none⟩ = some (.int .u64 a7) := hF.1.csr.cell 7
  have k8 : V.cell? ⟨b, 8, none⟩ = some (.int .u64 a8) := hF.1.csr.cell 8
  have k9 : V.cell? ⟨b, 9, none⟩ = some (.int .u64 a9) := hF.1.csr.cell 9
  have k10 : V.cell? ⟨b, 10, none⟩ = some (.int .u64 a10) := hF.1.csr.cell 10
  have k11 : V.cell? ⟨b, 11, none⟩ = some (.int .u64 a11) := hF.1.csr.cell 11
  have ltb := hF.1.csr.lt
  have HF := Lib.hid hF
  clear hF
  by_cases hal : va % m = 0
  · have hrr := HRR.out
    rw [if_pos hal] at hrr
    have T1 := Lib.hid (TO.out va m hv (by unfold I64; omega) L n V HF.out.1.sp)
    have hy64 := S.sR_64 (n := (m : Int)) (toR_64 (sa := sa) (st := st) (priv := priv) (kind := kind) HF.out.1.sp.tl.fine HF.out.1.sp.mem.byt HV64.out)
    have hcalm := HCM.out L va m
    clear HIT HON HFD TO HCM HRR
    unfold S.togV at hrr
    generalize S.sR bs L sa st priv kind va m = X at *
    generalize S.sF bs L sa st priv kind va m = Y at *
    generalize T.toLV bs most L sa st priv kind va = L' at *
    generalize T.toNV L n sa st priv kind va = n' at *
    obtain ⟨pt, lv, gb, isf, ca, vl⟩ := Y
    unfold K.Calm at hcalm
    simp only at hcalm T1
    have HCD := Lib.hid hcalm
    have HR := Lib.hid hrr.symm
    have hy2 := hy64
    unfold B64 at hy2
    clear hrr hcalm hy64
    go_wp2_with fail
    refine T1.out.mono ?_
    rintro e w1 ⟨rfl, hQ, hfq⟩
    have hN1 := HF.out.1.sp.nums HF.out.2 hfq
    have hF1 := HF.out.1.turn hQ hfq
    have hg := gr_alloc (gr_refl w1 none) (.cells #[.bool isf, .int .i64 ca, .int .u64 vl] 48)
    have u1 := Row.fresh w1 48 [.bool isf, .int .i64 ca, .int .u64 vl]
    replace hN1 := hN1.kept hg
    have ltq := hF1.sz2
    replace hF1 := hF1.keep hg
    clear hQ hfq HF hg T1 k0 k1 k2 k3 k4 k5 k6 k7 k8 k9 k10 k11 ltb
    go_upto_region 4 with (fail)
    replace u1 : Row (w1.alloc (.cells #[.bool isf, .int .i64 ca, .int .u64 vl] 48)) w1.heap.size 48 [.bool isf, .int .i64 ca, .int .u64 vl] := u1
    generalize w1.alloc (.cells #[.bool isf, .int .i64 ca, .int .u64 vl] 48) = U at *
    generalize w1.heap.size = q at *
    obtain ⟨⟨l0, l1, l2⟩, -, lq⟩ := fault_free u1
    cases isf
    · obtain ⟨rfl, rfl⟩ := HCD.out.1 rfl
      have HU := Lib.hid (And.intro hN1 (And.intro hF1 u1))
      clear hN1 hF1 u1
      go_wp2_with fail
      clear l0 l1 l2 lq
      go_loopw [14, 17] (fun x y wr => ∃ i : Nat, y = .int .i64 i ∧ i ≤ m ∧ NArr wr (b + 2) x (S.rowA X i) ∧ Gs w b s pm gm bs [a0, a1, a2, a3, a4, a5, a6, a7, a8, a9, a10, a11] u kp most n' L' wr ∧ Row wr q 48 [.bool false, .int .i64 0, .int .u64 0]) (fun _ y _ => m - (intOf y).toNat)
      case atStart => exact ⟨0, rfl, Nat.zero_le _, HU.out.1, HU.out.2.1, HU.out.2.2⟩
      case round =>
        clear HU
        obtain ⟨i, rfl, hi, hA, hF, hU⟩ := hrel
        have hlen := S.rowA_length X i
        by_cases hlt : i < m
        · have hst : (X + (i : Int)) % 18446744073709551616 = S.stepA X i := rfl
          have hsu := rowA_succ X i
          have FIN := Lib.hid (fun ob g' cap' w' hown hgr => num_fin (x := S.stepA X i) (ob := ob) (g := g') (cap := cap') (w' := w') hF hA hown hgr)
          have HUU := Lib.hid hU
          have gA := gr_alloc (gr_refl wr none) (.cells #[.int .u64 (S.stepA X i)] 22)
          have W0A := Lib.hid (show (wr.alloc (.cells #[.int .u64 (S.stepA X i)] 22)).ownsRow (b + 2) 22 1 u14 (S.rowA X i).length (wrds (S.rowA X i)) from hA.kept gA)
          have W0N := Lib.hid (news_row (Row.fresh wr 22 [.int .u64 (S.stepA X i)]))
          have W0B := Lib.hid (show b + 2 ≤ (wr.alloc (.cells #[.int .u64 (S.stepA X i)] 22)).heap.size from Nat.le_trans hF.sz2 gA.size)
          have HSU := Lib.hid hsu
          clear hA hF hU gA hsu
          go_wp2_with (at_builtin; refine wpList_append_lies _ rfl (.tmp 45) (.tmp 50) 63 rfl (b + 2) 22 i0 _ 1 8 Try.underlying63 HI.out.1 HI.out.2.1 HI.out.2.2.1 HI.out.2.2.2 rfl (by decide) u14 (S.rowA X i).length (wrds (S.rowA X i)) rfl W0A.out ⟨wr.heap.size, 0, none⟩ 1 1 [.int .u64 (S.stepA X i)] rfl (by rfl) W0N.out (by intro u hu; simp only [List.mem_cons, List.not_mem_nil, or_false] at hu; rcases hu with rfl; rfl) (by omega) (by unfold maxLen; omega) (by omega) W0B.out _ rfl ?_; intro g' cap' w' hown hgr hor hlt; have F1 := Lib.hid (FIN.out _ g' cap' w' hown hgr); clear hown hgr hor hlt FIN W0A W0N W0B)
          go_roundw
          case rel => exact ⟨i + 1, by go_num, by omega, by rw [HSU.out]; have f1 := F1.out.1; rw [S.rowA_length X i] at f1; exact f1, F1.out.2.1, F1.out.2.2 HUU.out (by decide)⟩
          case measure => simp [intOf]; omega
        · obtain rfl : i = m := by omega
          obtain ⟨⟨l0, l1, l2⟩, -, lq⟩ := fault_free hU
          obtain ⟨⟨z0, z1, z2⟩, fy, lt⟩ := fault_free hF.flt
          have dn := Lib.hid (And.intro (hA.far hF.flt (by decide) (gr_set3 wr (b + 1) (.bool false) (.int .i64 0) (.int .u64 0))) (hF.done (.bool false) (.int .i64 0) (.int .u64 0)))
          clear hA hF hU
          go_wp2_with fail
          go_region
          all_goals
            go_wp2_with fail
            refine ret_IF (b := false) (c := 0) (v := 0) rfl rfl rfl rfl (dn.out.2.1.grown (gr_drew (gr_refl _ none)) (by simp)) ?_
            rw [HR.out]
            exact ⟨_, rfl, by rw [HBB.out]; exact dn.out.1.kept (gr_drew (gr_refl _ none)), rowA_64 X i, by simp [hlen]; omega, dn.out.2.2.1.drew, dn.out.2.2.2.drew⟩
    · obtain ⟨⟨z0, z1, z2⟩, fy, lt⟩ := fault_free hF1.flt
      have dn := Lib.hid (hF1.done (.bool true) (.int .i64 ca) (.int .u64 vl))
      clear hN1 hF1 u1
      go_wp2_with fail
      go_region
      all_goals
        go_wp2_with fail
        refine ret_IF (b := true) (c := ca) (v := vl) rfl rfl rfl rfl (dn.out.1.grown (gr_drew (gr_refl _ none)) (by simp)) ?_
        rw [HR.out]
        exact ⟨_, rfl, NArr.nil _ _, (by intro a ha; cases ha), Nat.zero_le _, dn.out.2.1.drew, dn.out.2.2.drew⟩
  · have hrr := HRR.out
    rw [if_neg hal] at hrr
    have hne : (va % m == 0) = false := by simpa using hal
    have HR := Lib.hid hrr.symm
    clear hrr HRR
    clear k0 k1 k2 k3 k4 k5 k6 k7 k8 k9 k10 k11 ltb
    go_wp2_with fail
    go_loopw [14, 18] (fun x y wr => ∃ (i : Nat) (acc : List Int) (L' : List T.Lf) (n' : Int), y = .int .i64 i ∧ i ≤ m ∧ acc.length = i ∧ (∀ a ∈ acc, B64 a) ∧ r = S.inFront acc (S.runV bs most sa st priv kind va (m - i) i L' n') ∧ NArr wr (b + 2) x acc ∧ Gs w b s pm gm bs [a0, a1, a2, a3, a4, a5, a6, a7, a8, a9, a10, a11] u kp most n' L' wr) (fun _ y _ => m - (intOf y).toNat)
    case atStart => exact ⟨0, [], L, n, rfl, Nat.zero_le _, rfl, (by intro a ha; cases ha), by rw [HR.out, S.inFront_nil]; rfl, HF.out.2, HF.out.1⟩
    case round =>
      clear HF HR
      obtain ⟨i, acc, L', n', rfl, hi, hlen, h64, hrr, hA, hF⟩ := hrel
      by_cases hlt : i < m
      · obtain ⟨k, hk'⟩ : ∃ k, m - i = k + 1 := ⟨m - i - 1, by omega⟩
        rw [hk'] at hrr
        have hst : (va + (i : Int)) % 18446744073709551616 = S.stepA va i := rfl
        have T1 := Lib.hid (TO.out (S.stepA va i) 1 (S.step_64 va i) (by unfold I64; omega) L' n' wr hF.sp)
        have H64 := Lib.hid (And.intro h64 (S.sR_64 (n := 1) (toR_64 (sa := sa) (st := st) (priv := priv) (kind := kind) hF.sp.tl.fine hF.sp.mem.byt (S.step_64 va i))))
        clear h64
        have HI2 := Lib.hid (HIT.out k i L' n' acc)
        have HO := Lib.hid (HON.out k i L' n' acc)
        have HC := Lib.hid (HCM.out L' (S.stepA va i) 1)
        have HRR := Lib.hid hrr
        have k0 : wr.cell? ⟨b, 0, none⟩ = some (.int .u64 a0) := hF.csr.cell 0
        have k1 : wr.cell? ⟨b, 1, none⟩ = some (.int .u64 a1) := hF.csr.cell 1
        have k2 : wr.cell? ⟨b, 2, none⟩ = some (.int .u64 a2) := hF.csr.cell 2
        have k3 : wr.cell? ⟨b, 3, none⟩ = some (.int .u64 a3) := hF.csr.cell 3
        have k4 : wr.cell? ⟨b, 4, none⟩ = some (.int .u64 a4) := hF.csr.cell 4
        have k5 : wr.cell? ⟨b, 5, none⟩ = some (.int .u64 a5) := hF.csr.cell 5
        have k6 : wr.cell? ⟨b, 6, none⟩ = some (.int .u64 a6) := hF.csr.cell 6
        have k7 : wr.cell? ⟨b, 7, none⟩ = some (.int .u64 a7) := hF.csr.cell 7
        have k8 : wr.cell? ⟨b, 8, none⟩ = some (.int .u64 a8) := hF.csr.cell 8
        have k9 : wr.cell? ⟨b, 9, none⟩ = some (.int .u64 a9) := hF.csr.cell 9
        have k10 : wr.cell? ⟨b, 10, none⟩ = some (.int .u64 a10) := hF.csr.cell 10
        have k11 : wr.cell? ⟨b, 11, none⟩ = some (.int .u64 a11) := hF.csr.cell 11
        have ltb := hF.csr.lt
        have HK := Lib.hid (And.intro hA hF)
        clear hrr hA hF
        generalize S.sF bs L' sa st priv kind (S.stepA va i) 1 = Y at *
        generalize S.sR bs L' sa st priv kind (S.stepA va i) 1 = X at *
        obtain ⟨pt, lv, gb, isf, ca, vl⟩ := Y
        generalize T.toLV bs most L' sa st priv kind (S.stepA va i) = L1 at *
        generalize T.toNV L' n' sa st priv kind (S.stepA va i) = n1 at *
        simp only at T1
        have HCC := HC.out
        unfold K.Calm at HCC
        simp only at HCC
        have HCD := Lib.hid HCC
        clear HCC HC
        go_wp2_with fail
        refine T1.out.mono ?_
        rintro e w1 ⟨rfl, hQ, hfq⟩
        obtain ⟨hA, hF⟩ := HK.out
        have hg := gr_alloc (gr_refl w1 none) (.cells #[.bool isf, .int .i64 ca, .int .u64 vl] 48)
        have hA1 := (hF.sp.nums hA hfq).kept hg
        have hF1 := (hF.turn hQ hfq).keep hg
        have u1 := Row.fresh w1 48 [.bool isf, .int .i64 ca, .int .u64 vl]
        have ltq := (hF.turn hQ hfq).sz2
        clear HK T1 hA hF hQ hfq hg k0 k1 k2 k3 k4 k5 k6 k7 k8 k9 k10 k11 ltb
        go_upto_region 15 with (fail)
        replace u1 : Row (w1.alloc (.cells #[.bool isf, .int .i64 ca, .int .u64 vl] 48)) w1.heap.size 48 [.bool isf, .int .i64 ca, .int .u64 vl] := u1
        generalize w1.alloc (.cells #[.bool isf, .int .i64 ca, .int .u64 vl] 48) = U at *
        generalize w1.heap.size = q at *
        obtain ⟨⟨l0, l1, l2⟩, -, lq⟩ := fault_free u1
        cases isf
        · have FIN := Lib.hid (fun ob g' cap' w' hown hgr => num_fin (x := X) (ob := ob) (g := g') (cap := cap') (w' := w') hF1 hA1 hown hgr)
          have gA := gr_alloc (gr_refl U none) (.cells #[.int .u64 X] 22)
          have W0A := Lib.hid (show (U.alloc (.cells #[.int .u64 X] 22)).ownsRow (b + 2) 22 1 u14 acc.length (wrds acc) from hA1.kept gA)
          have W0N := Lib.hid (news_row (Row.fresh U 22 [.int .u64 X]))
          have W0B := Lib.hid (show b + 2 ≤ (U.alloc (.cells #[.int .u64 X] 22)).heap.size from Nat.le_trans hF1.sz2 gA.size)
          have hml : acc.length ≤ 8 := by omega
          clear hA1 hF1 u1 gA
          go_wp2_with (at_builtin; refine wpList_append_lies _ rfl (.tmp 74) (.tmp 76) 63 rfl (b + 2) 22 i0 _ 1 8 Try.underlying63 HI.out.1 HI.out.2.1 HI.out.2.2.1 HI.out.2.2.2 rfl (by decide) u14 (acc).length (wrds (acc)) rfl W0A.out ⟨U.heap.size, 0, none⟩ 1 1 [.int .u64 (X)] rfl (by rfl) W0N.out (by intro u hu; simp only [List.mem_cons, List.not_mem_nil, or_false] at hu; rcases hu with rfl; rfl) (by omega) (by unfold maxLen; omega) (by omega) W0B.out _ rfl ?_; intro g' cap' w' hown hgr hor hlt; have F1 := Lib.hid (FIN.out _ g' cap' w' hown hgr); clear hown hgr hor hlt FIN W0A W0N W0B l0 l1 l2 lq)
          go_roundw
          case rel => exact ⟨i + 1, acc ++ [X], L1, n1, by go_num, by omega, by simp [hlen], by intro a ha; rcases List.mem_append.1 ha with ha | ha; exact H64.out.1 a ha; (rw [List.mem_singleton.1 ha]; exact H64.out.2), by rw [HRR.out, HO.out rfl, show m - (i + 1) = k by omega], by have f1 := F1.out.1; rw [hlen] at f1; exact f1, F1.out.2.1⟩
          case measure => simp [intOf]; omega
        · obtain ⟨⟨z0, z1, z2⟩, fy, lt⟩ := fault_free hF1.flt
          have dn := Lib.hid (hF1.done (.bool true) (.int .i64 ca) (.int .u64 vl))
          clear hF1 u1 hA1
          go_wp2_with fail
          go_region
          all_goals
            go_wp2_with fail
            refine ret_IF (b := true) (c := ca) (v := vl) rfl rfl rfl rfl (dn.out.1.grown (gr_drew (gr_refl _ none)) (by simp)) ?_
            rw [HRR.out, HI2.out (by first | rfl | trivial)]
            exact ⟨_, rfl, NArr.nil _ _, (by intro a ha; cases ha), Nat.zero_le _, dn.out.2.1.drew, dn.out.2.2.drew⟩
      · obtain rfl : i = m := by omega
        rw [Nat.sub_self] at hrr
        obtain ⟨⟨z0, z1, z2⟩, fy, lt⟩ := fault_free hF.flt
        have dn := Lib.hid (And.intro (hA.far hF.flt (by decide) (gr_set3 wr (b + 1) (.bool false) (.int .i64 0) (.int .u64 0))) (hF.done (.bool false) (.int .i64 0) (.int .u64 0)))
        have HRR := Lib.hid hrr
        have H64 := Lib.hid h64
        clear h64 hA hF hrr
        go_wp2_with fail
        refine ret_IF (b := false) (c := 0) (v := 0) rfl rfl rfl rfl dn.out.2.1 ?_
        rw [HRR.out, HFD.out]
        exact ⟨_, rfl, by rw [HBB.out]; exact dn.out.1, H64.out, by simp [hlen]; omega, dn.out.2.2.1, dn.out.2.2.2⟩
end Go.Proofs.Ytkfmcbhoendocaa
end

section
namespace Go.Proofs.Ytkfmcbhoendocaa
open Go Go.RowKit W M D A C P K
set_option linter.unusedVariables false
set_option linter.unusedSimpArgs false

/-- What a slice that owns numbers looks like. -/
theorem NArr.shape {w : World} {lo : Nat} {v : Value} {all : List Int} (h : NArr w lo v all) : ∃ A cap, v = .slice A all.length cap ∧ ∀ k, k < all.length → ∃ g, A = some ⟨g, 0, none⟩ ∧ g < w.heap.size ∧ w.cell? ⟨g, k, none⟩ = some (.int .u64 (all.getD k 0)) := by
  rcases h.parts with ⟨rfl, rfl⟩ | ⟨g', cap, cur, rfl, h1, h2, h3, h4, h5, h6⟩
  · exact ⟨none, 0, rfl, fun k hk => absurd hk (by simp)⟩
  · refine ⟨_, _, rfl, fun k hk => ?_⟩
    obtain ⟨g, cap', he, -, hl, hc⟩ := h.cell hk
    injection he with e1 e2 e3
    exact ⟨g, e1, hl, hc⟩
theorem load_top {bs : List Int} (h : Byt bs) {all : List Int} {k : Nat} (hk : k < all.length) (h8 : all.length ≤ 8) :
    (0 ≤ leV ((gets bs all).drop (k + 1)) ∧ leV ((gets bs all).drop (k + 1)) < 72057594037927936) ∧ leV ((gets bs all).drop k) = leV ((gets bs all).drop (k + 1)) * 256 + getV bs (all.getD k 0) 1 := by
  have hl : (gets bs all).length = all.length := by simp [gets]
  have hb := leV_bd _ (drop_byt (gets_byt h all) (k + 1))
  have hp := p256_le (m := ((gets bs all).drop (k + 1)).length) (k := 7) (by rw [List.length_drop, hl]; omega)
  refine ⟨⟨hb.1, Int.lt_of_lt_of_le hb.2 (Int.le_trans hp (by decide))⟩, ?_⟩
  have hc : (gets bs all).drop k = getV bs (all.getD k 0) 1 :: (gets bs all).drop (k + 1) := by
    rw [List.drop_eq_getElem_cons (by rw [hl]; exact hk)]
    simp [gets, List.getD, List.getElem?_eq_getElem hk]
  rw [hc, leV]
  omega
set_option maxRecDepth 100000 in
set_option maxHeartbeats 8000000 in
theorem rSLoad_c (s pm gm : Nat) (bs : List Int) (c : Cs) (hc : C.Good c) (priv va : Int) (m : Nat) (hp : I64 priv) (hv : B64 va) (hm : m = 1 ∨ m = 2 ∨ m = 4 ∨ m = 8) (u : Nat) (kp : Bool) (most : Nat) (n : Int) (L : List T.Lf) (w : World) (h : QS w s pm gm bs u kp most n L) (r : S.Ans) (hr : S.realsV bs most (gC c 9) (gC c 0) priv 1 va m L n = r) :
    Calls Try.prog 39 #[.pointer (some ⟨s, 0, none⟩), vC c, .int .i64 priv, .int .u64 va, .int .i64 m] w fun e w' => e = .returned (.tuple #[.int .u64 (S.loadX bs r.all), vF r.f]) ∧ QS w' s pm gm bs u kp most r.n r.L ∧ Fq u gm w w' := by
  have BY := Lib.hid (fun W hW => rbytes_c s pm gm bs c hc priv 1 va m hp (by unfold I64; omega) hv hm u kp most n L W hW r hr)
  have HBY := Lib.hid h.mem.byt
  have HF0 := Lib.hid (Gs.start (c := c) w h)
  have HX := Lib.hid (show S.loadX bs r.all = leV (gets bs r.all) from rfl)
  have GT := Lib.hid (fun a W hW ha => rGet_c pm gm bs a 1 W hW ha (by omega))
  obtain ⟨⟨pt, lv, gb, isf, ca, vl⟩, all, L', n'⟩ := r
  simp only at HX
  unfold vF vFault at BY ⊢
  simp only at BY ⊢
  obtain ⟨a0, a1, a2, a3, a4, a5, a6, a7, a8, a9, a10, a11, rfl⟩ := twelve hc.1
  rw [show vC [a0, a1, a2, a3, a4, a5, a6, a7, a8, a9, a10, a11] = .agg #[.int .u64 a0, .int .u64 a1, .int .u64 a2, .int .u64 a3, .int .u64 a4, .int .u64 a5, .int .u64 a6, .int .u64 a7, .int .u64 a8, .int .u64 a9, .int .u64 a10, .int .u64 a11] from rfl] at *
  clear hc h hr
  unfold I64 at hp
  unfold B64 at hv
  rw [HX.out]
  clear HX
  go_enter Try.func39, Try.ntmps39
  go_upto_region 1 with (fail)
  have hF := HF0.out
  clear HF0
  unfold lC at hF
  simp only [List.map_cons, List.map_nil] at hF
  have hF : Gs w w.heap.size s pm gm bs [a0, a1, a2, a3, a4, a5, a6, a7, a8, a9, a10, a11] u kp most n L ((w.alloc (.cells #[.int .u64 a0, .int .u64 a1, .int .u64 a2, .int .u64 a3, .int .u64 a4, .int .u64 a5, .int .u64 a6, .int .u64 a7, .int .u64 a8, .int .u64 a9, .int .u64 a10, .int .u64 a11] 24)).alloc (.cells #[.bool false, .int .i64 0, .int .u64 0] 48)) := hF
  generalize ((w.alloc (.cells #[.int .u64 a0, .int .u64 a1, .int .u64 a2, .int .u64 a3, .int .u64 a4, .int .u64 a5, .int .u64 a6, .int .u64 a7, .int .u64 a8, .int .u64 a9, .int .u64 a10, .int .u64 a11] 24)).alloc (.cells #[.bool false, .int .i64 0, .int .u64 0] 48)) = V at *
  generalize hbb : w.heap.size = b at *
  clear hbb
  have k0 : V.cell? ⟨b, 0, none⟩ = some (.int .u64 a0) := hF.csr.cell 0
  have k1 : V.cell? ⟨b, 1, none⟩ = some (.int .u64 a1) := hF.csr.cell 1
  have k2 : V.cell? ⟨b, 2, none⟩ = some (.int .u64 a2) := hF.csr.cell 2
  have k3 : V.cell? ⟨b, 3, none⟩ = some (.int .u64 a3) := hF.csr.cell 3
  have k4 : V.cell? ⟨b, 4, none⟩ = some (.int .u64 a4) := hF.csr.cell 4
  have k5 : V.cell? ⟨b, 5, none⟩ = some (.int .u64 a5) := hF.csr.cell 5
  have k6 : V.cell? ⟨b, 6, none⟩ = some (.int .u64 a6) := hF.csr.cell 6
  have k7 : V.cell? ⟨b, 7, none⟩ = some (.int .u64 a7) := hF.csr.cell 7
  have k8 : V.cell? ⟨b, 8, none⟩ = some (.int .u64 a8) := hF.csr.cell 8
  have k9 : V.cell? ⟨b, 9, none⟩ = some (.int .u64 a9) := hF.csr.cell 9
  have k10 : V.cell? ⟨b, 10, none⟩ = some (.int .u64 a10) := hF.csr.cell 10
  have k11 : V.cell? ⟨b, 11, none⟩ = some (.int .u64 a11) := hF.csr.cell 11
  have ltb := hF.csr.lt
  have HF := Lib.hid hF
  clear hF
  go_wp2_with fail
  refine (BY.out _ HF.out.sp).mono ?_
  rintro e w1 ⟨v, rfl, hA, h64, h8, hQ, hfq⟩
  have hF1 := HF.out.turn hQ hfq
  have hg := gr_alloc (gr_refl w1 none) (.cells #[.bool isf, .int .i64 ca, .int .u64 vl] 48)
  have q1 := Row.fresh w1 48 [.bool isf, .int .i64 ca, .int .u64 vl]
  have ltq := hF1.sz2
  have hF2 := hF1.keep hg
  replace hA := (hA.kept hg).less (lo' := b + 2) (by have := HF.out.sz2; omega)
  clear HF hQ hfq k0 k1 k2 k3 k4 k5 k6 k7 k8 k9 k10 k11 ltb BY hF1 hg
  go_upto_region 2 with (fail)
  replace q1 : Row (w1.alloc (.cells #[.bool isf, .int .i64 ca, .int .u64 vl] 48)) w1.heap.size 48 [.bool isf, .int .i64 ca, .int .u64 vl] := q1
  generalize w1.alloc (.cells #[.bool isf, .int .i64 ca, .int .u64 vl] 48) = U at *
  generalize w1.heap.size = q at *
  obtain ⟨A, cap, rfl, hcl⟩ := hA.shape
  have HK := Lib.hid (And.intro hA (And.intro hF2 q1))
  have H64 := Lib.hid (And.intro h64 h8)
  obtain ⟨N, hN⟩ : ∃ N, N = all.length := ⟨_, rfl⟩
  have hn8 : N ≤ 8 := by rw [hN]; exact h8
  rw [← hN]
  have HN := Lib.hid hN
  have hlN : leV ((gets bs all).drop N) = 0 := by rw [List.drop_of_length_le (by rw [hN]; simp [gets])]; rfl
  have HLN := Lib.hid hlN
  clear hN hlN hA hF2 q1 h64 h8 hcl
  go_wp2_with fail
  go_loopw [14, 15] (fun x y wr => ∃ k : Nat, k ≤ N ∧ y = .int .i64 ((k : Int) - 1) ∧ x = .int .u64 (leV ((gets bs all).drop k)) ∧ NArr wr (b + 2) (.slice A all.length cap) all ∧ Gs w b s pm gm bs [a0, a1, a2, a3, a4, a5, a6, a7, a8, a9, a10, a11] u kp most n' L' wr ∧ Row wr q 48 [.bool isf, .int .i64 ca, .int .u64 vl]) (fun _ y _ => (intOf y + 1).toNat)
  case atStart => exact ⟨N, Nat.le_refl _, rfl, by rw [HLN.out], HK.out⟩
  case round =>
    obtain ⟨k, hk, rfl, rfl, hA, hF, hq⟩ := hrel
    cases k with
    | zero =>
      obtain ⟨⟨l0, l1, l2⟩, -, lq⟩ := fault_free hq
      obtain ⟨⟨z0, z1, z2⟩, fy, lt⟩ := fault_free hF.flt
      have dn := Lib.hid (hF.done (.bool isf) (.int .i64 ca) (.int .u64 vl))
      clear hA hF hq
      go_wp2_with fail
      go_region
      all_goals
        go_wp2_with fail
        exact ret_IF (b := isf) (c := ca) (v := vl) rfl rfl rfl rfl (dn.out.1.grown (gr_drew (gr_refl _ none)) (by simp)) ⟨by simp [vFault], dn.out.2.1.drew, dn.out.2.2.drew⟩
    | succ j =>
      rw [show ((j + 1 : Nat) : Int) - 1 = (j : Int) by omega]
      have hka : j < all.length := by rw [← HN.out]; omega
      obtain ⟨A', cap', he, hcl⟩ := hA.shape
      injection he with e1 e2 e3
      subst e1 e3
      obtain ⟨g, rfl, hgl, hcell⟩ := hcl j hka
      clear hcl e2
      obtain ⟨hx, hst⟩ := load_top HBY.out hka H64.out.2
      obtain ⟨a, ha⟩ : ∃ a, a = all.getD j 0 := ⟨_, rfl⟩
      rw [← ha] at hcell hst
      have ha64 : B64 a := by rw [ha]; simp only [List.getD, List.getElem?_eq_getElem hka]; exact H64.out.1 _ (List.getElem_mem hka)
      have G1 := Lib.hid (GT.out a wr.drew hF.sp.drew.mem ha64)
      obtain ⟨hb0, hb1⟩ := get1_bd HBY.out a
      have s0 := hF.sp.str.cell 0
      simp only [List.getElem?_cons_zero] at s0
      have ls := hF.sp.str.lt
      generalize getV bs a 1 = b' at *
      generalize okB bs.length a 1 = ok' at *
      generalize leV ((gets bs all).drop (j + 1)) = X at *
      have HST := Lib.hid hst
      have gd := gr_drew (gr_refl wr none)
      have HW := Lib.hid (And.intro (hA.kept gd) (And.intro (hF.keep gd) (hq.grown gd (by simp))))
      clear hA hF hq gd ha hst
      go_wp2_with fail
      go_region_with (go_at_call 85; refine G1.out.mono ?_; rintro e w' ⟨rfl, rfl⟩)
      all_goals
        go_wp2_with fail
        go_roundw
        case rel => exact ⟨j, by omega, by go_num, by rw [HST.out], HW.out⟩
        case measure => simp [intOf] <;> omega
end Go.Proofs.Ytkfmcbhoendocaa
end

section
namespace Go.Proofs.Ytkfmcbhoendocaa
open Go Go.RowKit W M D A C P K
set_option linter.unusedVariables false
set_option linter.unusedSimpArgs false

theorem Gs.wrote {w wr ws : World} {b s pm gm : Nat} {bs bs' : List Int} {c : Cs} {u most : Nat} {kp : Bool} {n : Int} {L : List T.Lf} (h : Gs w b s pm gm bs c u kp most n L wr) (hg : wr.grownBy ws (some gm)) (hm : QAt ws pm gm bs') : Gs w b s pm gm bs' c u kp most n L ws :=
  h.turn (h.sp.wrote hg hm) (Fq.of_gm hg u)
set_option maxRecDepth 100000 in
set_option maxHeartbeats 8000000 in
theorem rSStore_c (s pm gm : Nat) (bs : List Int) (c : Cs) (hc : C.Good c) (priv va : Int) (m : Nat) (x : Int) (hp : I64 priv) (hv : B64 va) (hm : m = 1 ∨ m = 2 ∨ m = 4 ∨ m = 8) (hx : B64 x) (u : Nat) (kp : Bool) (most : Nat) (n : Int) (L : List T.Lf) (w : World) (h : QS w s pm gm bs u kp most n L) (r : S.Ans) (hr : S.realsV bs most (gC c 9) (gC c 0) priv 2 va m L n = r) :
    Calls Try.prog 41 #[.pointer (some ⟨s, 0, none⟩), vC c, .int .i64 priv, .int .u64 va, .int .i64 m, .int .u64 x] w fun e w' => ∃ v, e = .returned (.tuple #[v, vF r.f]) ∧ NArr w' (w.heap.size + 2) v r.all ∧ QS w' s pm gm (S.storeX bs r.all x) u kp most r.n r.L ∧ Fq u gm w w' := by
  have BY := Lib.hid (fun W hW => rbytes_c s pm gm bs c hc priv 2 va m hp (by unfold I64; omega) hv hm u kp most n L W hW r hr)
  have HF0 := Lib.hid (Gs.start (c := c) w h)
  have PT := Lib.hid (fun bs a y W hW ha hy => rPut_c pm gm bs a 1 y W hW ha (by omega) hy)
  have hxx : 0 ≤ x ∧ x ≤ 18446744073709551615 := hx
  clear hx
  obtain ⟨⟨pt, lv, gb, isf, ca, vl⟩, all, L', n'⟩ := r
  unfold vF vFault at BY ⊢
  simp only at BY ⊢
  obtain ⟨a0, a1, a2, a3, a4, a5, a6, a7, a8, a9, a10, a11, rfl⟩ := twelve hc.1
  rw [show vC [a0, a1, a2, a3, a4, a5, a6, a7, a8, a9, a10, a11] = .agg #[.int .u64 a0, .int .u64 a1, .int .u64 a2, .int .u64 a3, .int .u64 a4, .int .u64 a5, .int .u64 a6, .int .u64 a7, .int .u64 a8, .int .u64 a9, .int .u64 a10, .int .u64 a11] from rfl] at *
  clear hc h hr
  unfold I64 at hp
  unfold B64 at hv
  go_enter Try.func41, Try.ntmps41
  go_upto_region 1 with (fail)
  have hF := HF0.out
  clear HF0
  unfold lC at hF
  simp only [List.map_cons, List.map_nil] at hF
  have hF : Gs w w.heap.size s pm gm bs [a0, a1, a2, a3, a4, a5, a6, a7, a8, a9, a10, a11] u kp most n L ((w.alloc (.cells #[.int .u64 a0, .int .u64 a1, .int .u64 a2, .int .u64 a3, .int .u64 a4, .int .u64 a5, .int .u64 a6, .int .u64 a7, .int .u64 a8, .int .u64 a9, .int .u64 a10, .int .u64 a11] 24)).alloc (.cells #[.bool false, .int .i64 0, .int .u64 0] 48)) := hF
  generalize ((w.alloc (.cells #[.int .u64 a0, .int .u64 a1, .int .u64 a2, .int .u64 a3, .int .u64 a4, .int .u64 a5, .int .u64 a6, .int .u64 a7, .int .u64 a8, .int .u64 a9, .int .u64 a10, .int .u64 a11] 24)).alloc (.cells #[.bool false, .int .i64 0, .int .u64 0] 48)) = V at *
  generalize hbb : w.heap.size = b at *
  have HBB := Lib.hid hbb
  clear hbb
  have k0 : V.cell? ⟨b, 0, none⟩ = some (.int .u64 a0) := hF.csr.cell 0
  have k1 : V.cell? ⟨b, 1, none⟩ = some (.int .u64 a1) := hF.csr.cell 1
  have k2 : V.cell? ⟨b, 2, none⟩ = some (.int .u64 a2) := hF.csr.cell 2
  have k3 : V.cell? ⟨b, 3, none⟩ = some (.int .u64 a3) := hF.csr.cell 3
  have k4 : V.cell? ⟨b, 4, none⟩ = some (.int .u64 a4) := hF.csr.cell 4
  have k5 : V.cell? ⟨b, 5, none⟩ = some (.int .u64 a5) := hF.csr.cell 5
  have k6 : V.cell? ⟨b, 6, none⟩ = some (.int .u64 a6) := hF.csr.cell 6
  have k7 : V.cell? ⟨b, 7, none⟩ = some (.int .u64 a7) := hF.csr.cell 7
  have k8 : V.cell? ⟨b, 8, none⟩ = some (.int .u64 a8) := hF.csr.cell 8
  have k9 : V.cell? ⟨b, 9, none⟩ = some (.int .u64 a9) := hF.csr.cell 9
  have k10 : V.cell? ⟨b, 10, none⟩ = some (.int .u64 a10) := hF.csr.cell 10
  have k11 : V.cell? ⟨b, 11, none⟩ = some (.int .u64 a11) := hF.csr.cell 11
  have ltb := hF.csr.lt
  have HF := Lib.hid hF
  clear hF
  go_wp2_with fail
  refine (BY.out _ HF.out.sp).mono ?_
  rintro e w1 ⟨v, rfl, hA, h64, h8, hQ, hfq⟩
  have hF1 := HF.out.turn hQ hfq
  have hg := gr_alloc (gr_refl w1 none) (.cells #[.bool isf, .int .i64 ca, .int .u64 vl] 48)
  have q1 := Row.fresh w1 48 [.bool isf, .int .i64 ca, .int .u64 vl]
  have ltq := hF1.sz2
  have hF2 := hF1.keep hg
  replace hA := (hA.kept hg).less (lo' := b + 2) (by have := HF.out.sz2; omega)
  clear HF hQ hfq k0 k1 k2 k3 k4 k5 k6 k7 k8 k9 k10 k11 ltb BY hF1 hg
  go_upto_region 2 with (fail)
  replace q1 : Row (w1.alloc (.cells #[.bool isf, .int .i64 ca, .int .u64 vl] 48)) w1.heap.size 48 [.bool isf, .int .i64 ca, .int .u64 vl] := q1
  generalize w1.alloc (.cells #[.bool isf, .int .i64 ca, .int .u64 vl] 48) = U at *
  generalize w1.heap.size = q at *
  obtain ⟨A, cap, rfl, hcl⟩ := hA.shape
  have HK := Lib.hid (And.intro hA (And.intro hF2 q1))
  have H64 := Lib.hid (And.intro h64 h8)
  obtain ⟨N, hN⟩ : ∃ N, N = all.length := ⟨_, rfl⟩
  have hn8 : N ≤ 8 := by rw [hN]; exact h8
  rw [← hN]
  have HN := Lib.hid hN
  clear hN hA hF2 q1 h64 h8 hcl
  go_wp2_with fail
  go_loopw [16] (fun y wr => ∃ (k : Nat) (bk : List Int), k ≤ N ∧ y = .int .i64 k ∧ S.storeX bs all x = S.storeX bk (all.drop k) (x / 256 ^ k) ∧ NArr wr (b + 2) (.slice A all.length cap) all ∧ Gs w b s pm gm bk [a0, a1, a2, a3, a4, a5, a6, a7, a8, a9, a10, a11] u kp most n' L' wr ∧ Row wr q 48 [.bool isf, .int .i64 ca, .int .u64 vl]) (fun y _ => N - (intOf y).toNat)
  case atStart => exact ⟨0, bs, Nat.zero_le _, rfl, by simp, HK.out⟩
  case round =>
    obtain ⟨k, bk, hk, rfl, hst, hA, hF, hq⟩ := hrel
    by_cases hlt : k < N
    · have hka : k < all.length := by rw [← HN.out]; omega
      obtain ⟨A', cap', he, hcl⟩ := hA.shape
      injection he with e1 e2 e3
      subst e1 e3
      obtain ⟨g, rfl, hgl, hcell⟩ := hcl k hka
      clear hcl e2
      obtain ⟨a, ha⟩ : ∃ a, a = all.getD k 0 := ⟨_, rfl⟩
      rw [← ha] at hcell
      have ha64 : B64 a := by rw [ha]; simp only [List.getD, List.getElem?_eq_getElem hka]; exact H64.out.1 _ (List.getElem_mem hka)
      rw [drop_cons hka, ← ha, S.storeX] at hst
      have hy := div_64 hxx k
      have P1 := Lib.hid (PT.out bk a (x / 256 ^ k) wr.drew hF.sp.drew.mem ha64 hy)
      have hs := shr_8 x k
      have hw8 : IntKind.i64.wrap (8 * (k : Int)) = 8 * (k : Int) := i64_in (by omega)
      have hy2 : x / 256 ^ k / 256 = x / 256 ^ (k + 1) := by rw [Int.pow_succ, Int.ediv_ediv_of_nonneg (by have := p256 k; omega)]
      rw [hy2] at hst
      have s0 := hF.sp.str.cell 0
      simp only [List.getElem?_cons_zero] at s0
      have ls := hF.sp.str.lt
      have HST := Lib.hid hst
      have HW := Lib.hid (And.intro hA (And.intro hF hq))
      generalize x / 256 ^ k = y at *
      clear ha hst hF hq hA hka hy2
      go_wp2_with fail
      refine wp_region_still_tail 12 (by kernel_rfl) (by kernel_rfl) ?_
      simp only [List.take_succ_cons, List.take_zero, List.drop_succ_cons, List.drop_zero]
      change wpStill Try.prog _ (World.drew wr) _ _ _
      repeat still_step
      refine wpStill_nil ?_
      change wpList _ _ _ _ _ (World.drew _)
      go_wp2_with fail
      rw [hs]
      refine P1.out.mono ?_
      rintro e w2 ⟨rfl, hA, hG⟩
      have hG' : wr.grownBy w2 (some gm) := ⟨hG.os, hG.tape, hG.output, hG.size, hG.block⟩
      obtain ⟨hB, hF, hq⟩ := HW.out
      have hB3 := hB.far hF.sp.mem.row (by decide) hG'
      have hF3 := hF.wrote hG' hA
      have hq3 := hq.grown hG' (some_ne (hq.apart hF.sp.mem.row (by decide)))
      clear hF hq hB hG hG' hA HW s0 ls hgl hcell
      go_wp2_with fail
      go_roundw
      case rel => exact ⟨k + 1, _, by omega, by go_num, HST.out, hB3, hF3, hq3⟩
      case measure => simp [intOf]; omega
    · obtain rfl : k = N := by omega
      obtain ⟨⟨l0, l1, l2⟩, -, lq⟩ := fault_free hq
      obtain ⟨⟨z0, z1, z2⟩, fy, lt⟩ := fault_free hF.flt
      rw [List.drop_of_length_le (by rw [HN.out]; exact Nat.le_refl _), S.storeX] at hst
      rw [← hst] at hF
      have dn := Lib.hid (And.intro (hA.far hF.flt (by decide) (gr_set3 wr (b + 1) (.bool isf) (.int .i64 ca) (.int .u64 vl))) (hF.done (.bool isf) (.int .i64 ca) (.int .u64 vl)))
      clear hA hF hq hst
      go_wp2_with fail
      go_region
      all_goals
        go_wp2_with fail
        refine ret_IF (b := isf) (c := ca) (v := vl) rfl rfl rfl rfl (dn.out.2.1.grown (gr_drew (gr_refl _ none)) (by simp)) ?_
        exact ⟨.slice A all.length cap, by first | rfl | (rw [← HN.out]; rfl), by rw [HBB.out]; exact dn.out.1.kept (gr_drew (gr_refl _ none)), dn.out.2.2.1.drew, dn.out.2.2.2.drew⟩
end Go.Proofs.Ytkfmcbhoendocaa
end

section
namespace Go.Proofs.Ytkfmcbhoendocaa
open Go Go.RowKit W M D A C P K
set_option linter.unusedVariables false
set_option linter.unusedSimpArgs false

set_option maxRecDepth 100000 in
set_option maxHeartbeats 8000000 in
theorem rSFetch_c (s pm gm : Nat) (bs : List Int) (c : Cs) (hc : C.Good c) (priv va : Int) (hp : I64 priv) (hv : B64 va) (u : Nat) (kp : Bool) (most : Nat) (n : Int) (L : List T.Lf) (w : World) (h : QS w s pm gm bs u kp most n L) (r : S.Fet) (hr : S.fetchV bs most (gC c 9) (gC c 0) priv va L n = r) :
    Calls Try.prog 44 #[.pointer (some ⟨s, 0, none⟩), vC c, .int .i64 priv, .int .u64 va] w fun e w' => e = .returned (.tuple #[.int .u32 r.x, vF r.f]) ∧ QS w' s pm gm bs u kp most r.n r.L ∧ Fq u gm w w' := by
  have T1 := Lib.hid (fun W hW => rSTo_c s pm gm bs c hc priv 0 va 2 hp (by unfold I64; omega) hv (by unfold I64; omega) u kp most n L W hW)
  have T2 := Lib.hid (fun n L W hW => rSTo_c s pm gm bs c hc priv 0 (S.stepA va 2) 2 hp (by unfold I64; omega) (S.step_64 va 2) (by unfold I64; omega) u kp most n L W hW)
  have hx1 := S.sR_64 (n := 2) (toR_64 (sa := gC c 9) (st := gC c 0) (priv := priv) (kind := 0) h.tl.fine h.mem.byt hv)
  have X64 := Lib.hid (fun n L W (hW : QS W s pm gm bs u kp most n L) => S.sR_64 (n := 2) (toR_64 (sa := gC c 9) (st := gC c 0) (priv := priv) (kind := 0) hW.tl.fine hW.mem.byt (S.step_64 va 2)))
  have hc1 := sF_calm bs L (gC c 9) (gC c 0) priv 0 va 2
  have hc2 := sF_calm bs (T.toLV bs most L (gC c 9) (gC c 0) priv 0 va) (gC c 9) (gC c 0) priv 0 (S.stepA va 2) 2
  have hst : (va + 2) % 18446744073709551616 = S.stepA va 2 := rfl
  have HF0 := Lib.hid (Gs.start (c := c) w h)
  have hg2 := fun a => S.get2_bd h.mem.byt a
  unfold S.fetchV S.halfV at hr
  generalize gC c 9 = sa at *
  generalize gC c 0 = st at *
  generalize T.toLV bs most L sa st priv 0 va = L1 at *
  generalize T.toNV L n sa st priv 0 va = n1 at *
  have T2' := Lib.hid (fun W hW => T2.out n1 L1 W hW)
  have X64' := Lib.hid (fun W hW => X64.out n1 L1 W hW)
  clear T2 X64
  generalize T.toLV bs most L1 sa st priv 0 (S.stepA va 2) = L2 at *
  generalize T.toNV L1 n1 sa st priv 0 (S.stepA va 2) = n2 at *
  generalize S.sR bs L sa st priv 0 va 2 = X1 at *
  generalize S.sF bs L sa st priv 0 va 2 = f1 at *
  generalize S.sR bs L1 sa st priv 0 (S.stepA va 2) 2 = X2 at *
  generalize S.sF bs L1 sa st priv 0 (S.stepA va 2) 2 = f2 at *
  have GT1 := Lib.hid (fun W hW => rGet_c pm gm bs X1 2 W hW hx1 (by omega))
  have GT2 := Lib.hid (fun W hW hx2 => rGet_c pm gm bs X2 2 W hW hx2 (by omega))
  have hb1 := hg2 X1
  have hb2 := hg2 X2
  clear hg2 hx1 h
  generalize getV bs X1 2 = g1 at *
  generalize getV bs X2 2 = g2 at *
  generalize okB bs.length X1 2 = o1 at *
  generalize okB bs.length X2 2 = o2 at *
  obtain ⟨pt, lv, gb, isf, ca, vl⟩ := f1
  obtain ⟨pt2, lv2, gb2, isf2, ca2, vl2⟩ := f2
  obtain ⟨rx, rf, rL, rn⟩ := r
  simp only at hr
  unfold K.Calm at hc1 hc2
  simp only at hc1 hc2
  have HC1 := Lib.hid hc1
  have HC2 := Lib.hid hc2
  have HR0 := Lib.hid hr
  have HST := Lib.hid hst
  unfold vF vFault at T1 T2' ⊢
  simp only at T1 T2' ⊢
  obtain ⟨a0, a1, a2, a3, a4, a5, a6, a7, a8, a9, a10, a11, rfl⟩ := twelve hc.1
  rw [show vC [a0, a1, a2, a3, a4, a5, a6, a7, a8, a9, a10, a11] = .agg #[.int .u64 a0, .int .u64 a1, .int .u64 a2, .int .u64 a3, .int .u64 a4, .int .u64 a5, .int .u64 a6, .int .u64 a7, .int .u64 a8, .int .u64 a9, .int .u64 a10, .int .u64 a11] from rfl] at *
  clear hc hc1 hc2 hr
  unfold I64 at hp
  unfold B64 at hv
  go_enter Try.func44, Try.ntmps44
  go_upto_region 1 with (fail)
  have hF := HF0.out
  clear HF0
  unfold lC at hF
  simp only [List.map_cons, List.map_nil] at hF
  have hF : Gs w w.heap.size s pm gm bs [a0, a1, a2, a3, a4, a5, a6, a7, a8, a9, a10, a11] u kp most n L ((w.alloc (.cells #[.int .u64 a0, .int .u64 a1, .int .u64 a2, .int .u64 a3, .int .u64 a4, .int .u64 a5, .int .u64 a6, .int .u64 a7, .int .u64 a8, .int .u64 a9, .int .u64 a10, .int .u64 a11] 24)).alloc (.cells #[.bool false, .int .i64 0, .int .u64 0] 48)) := hF
  generalize ((w.alloc (.cells #[.int .u64 a0, .int .u64 a1, .int .u64 a2, .int .u64 a3, .int .u64 a4, .int .u64 a5, .int .u64 a6, .int .u64 a7, .int .u64 a8, .int .u64 a9, .int .u64 a10, .int .u64 a11] 24)).alloc (.cells #[.bool false, .int .i64 0, .int .u64 0] 48)) = V at *
  generalize hbb : w.heap.size = b at *
  clear hbb
  have k0 : V.cell? ⟨b, 0, none⟩ = some (.int .u64 a0) := hF.csr.cell 0
  have k1 : V.cell? ⟨b, 1, none⟩ = some (.int .u64 a1) := hF.csr.cell 1
  have k2 : V.cell? ⟨b, 2, none⟩ = some (.int .u64 a2) := hF.csr.cell 2
  have k3 : V.cell? ⟨b, 3, none⟩ = some (.int .u64 a3) := hF.csr.cell 3
  have k4 : V.cell? ⟨b, 4, none⟩ = some (.int .u64 a4) := hF.csr.cell 4
  have k5 : V.cell? ⟨b, 5, none⟩ = some (.int .u64 a5) := hF.csr.cell 5
  have k6 : V.cell? ⟨b, 6, none⟩ = some (.int .u64 a6) := hF.csr.cell 6
  have k7 : V.cell? ⟨b, 7, none⟩ = some (.int .u64 a7) := hF.csr.cell 7
  have k8 : V.cell? ⟨b, 8, none⟩ = some (.int .u64 a8) := hF.csr.cell 8
  have k9 : V.cell? ⟨b, 9, none⟩ = some (.int .u64 a9) := hF.csr.cell 9
  have k10 : V.cell? ⟨b, 10, none⟩ = some (.int .u64 a10) := hF.csr.cell 10
  have k11 : V.cell? ⟨b, 11, none⟩ = some (.int .u64 a11) := hF.csr.cell 11
  have ltb := hF.csr.lt
  have HF := Lib.hid hF
  clear hF
  go_wp2_with fail
  refine (T1.out _ HF.out.sp).mono ?_
  rintro e w1 ⟨rfl, hQ, hfq⟩
  have hF1 := HF.out.turn hQ hfq
  have hg := gr_alloc (gr_refl w1 none) (.cells #[.bool isf, .int .i64 ca, .int .u64 vl] 48)
  have q1 := Row.fresh w1 48 [.bool isf, .int .i64 ca, .int .u64 vl]
  have ltq := hF1.sz2
  have hF2 := hF1.keep hg
  clear HF hQ hfq k0 k1 k2 k3 k4 k5 k6 k7 k8 k9 k10 k11 ltb T1 hF1 hg
  go_upto_region 2 with (fail)
  replace q1 : Row (w1.alloc (.cells #[.bool isf, .int .i64 ca, .int .u64 vl] 48)) w1.heap.size 48 [.bool isf, .int .i64 ca, .int .u64 vl] := q1
  generalize w1.alloc (.cells #[.bool isf, .int .i64 ca, .int .u64 vl] 48) = U at *
  generalize w1.heap.size = q at *
  obtain ⟨⟨l0, l1, l2⟩, -, lq⟩ := fault_free q1
  cases isf
  · obtain ⟨rfl, rfl⟩ := HC1.out.1 rfl
    have s0 := hF2.sp.str.cell 0
    simp only [List.getElem?_cons_zero] at s0
    have ls := hF2.sp.str.lt
    have HU := Lib.hid (And.intro hF2 q1)
    clear hF2 q1
    go_wp2_with fail
    refine (GT1.out _ HU.out.1.sp.mem).mono ?_
    rintro e w2 ⟨rfl, rfl⟩
    by_cases heq : g1 % 4 = 3
    · clear l0 l1 l2 lq s0 ls
      have hF := HU.out.1
      have k0 : U.cell? ⟨b, 0, none⟩ = some (.int .u64 a0) := hF.csr.cell 0
      have k1 : U.cell? ⟨b, 1, none⟩ = some (.int .u64 a1) := hF.csr.cell 1
      have k2 : U.cell? ⟨b, 2, none⟩ = some (.int .u64 a2) := hF.csr.cell 2
      have k3 : U.cell? ⟨b, 3, none⟩ = some (.int .u64 a3) := hF.csr.cell 3
      have k4 : U.cell? ⟨b, 4, none⟩ = some (.int .u64 a4) := hF.csr.cell 4
      have k5 : U.cell? ⟨b, 5, none⟩ = some (.int .u64 a5) := hF.csr.cell 5
      have k6 : U.cell? ⟨b, 6, none⟩ = some (.int .u64 a6) := hF.csr.cell 6
      have k7 : U.cell? ⟨b, 7, none⟩ = some (.int .u64 a7) := hF.csr.cell 7
      have k8 : U.cell? ⟨b, 8, none⟩ = some (.int .u64 a8) := hF.csr.cell 8
      have k9 : U.cell? ⟨b, 9, none⟩ = some (.int .u64 a9) := hF.csr.cell 9
      have k10 : U.cell? ⟨b, 10, none⟩ = some (.int .u64 a10) := hF.csr.cell 10
      have k11 : U.cell? ⟨b, 11, none⟩ = some (.int .u64 a11) := hF.csr.cell 11
      have ltb := hF.csr.lt
      clear hF
      have hadd : IntKind.u64.wrap (va + 2) = S.stepA va 2 := by rw [IntKind.wrap_u64]; exact HST.out
      go_wp2_with fail
      refine (T2'.out _ HU.out.1.sp).mono ?_
      rintro e w3 ⟨rfl, hQ, hfq⟩
      have hx2 := X64'.out _ HU.out.1.sp
      have hF1 := HU.out.1.turn hQ hfq
      have hg := gr_alloc (gr_refl w3 none) (.cells #[.bool isf2, .int .i64 ca2, .int .u64 vl2] 48)
      have q2 := Row.fresh w3 48 [.bool isf2, .int .i64 ca2, .int .u64 vl2]
      have ltq2 := hF1.sz2
      have hF2 := hF1.keep hg
      clear HU hQ hfq k0 k1 k2 k3 k4 k5 k6 k7 k8 k9 k10 k11 ltb T2' X64' hF1 hg
      go_upto_region 8 with (fail)
      replace q2 : Row (w3.alloc (.cells #[.bool isf2, .int .i64 ca2, .int .u64 vl2] 48)) w3.heap.size 48 [.bool isf2, .int .i64 ca2, .int .u64 vl2] := q2
      generalize w3.alloc (.cells #[.bool isf2, .int .i64 ca2, .int .u64 vl2] 48) = Z at *
      generalize w3.heap.size = z at *
      obtain ⟨⟨l0, l1, l2⟩, -, lq⟩ := fault_free q2
      obtain ⟨⟨z0, z1, z2⟩, fy, lt⟩ := fault_free hF2.flt
      have s0 := hF2.sp.str.cell 0
      simp only [List.getElem?_cons_zero] at s0
      have ls := hF2.sp.str.lt
      have HM := Lib.hid hF2.sp.mem
      have dn := Lib.hid (hF2.done (.bool isf2) (.int .i64 ca2) (.int .u64 vl2))
      clear hF2 q2
      cases isf2
      · obtain ⟨rfl, rfl⟩ := HC2.out.1 rfl
        go_wp2_with fail
        refine (GT2.out _ HM.out hx2).mono ?_
        rintro e w4 ⟨rfl, rfl⟩
        have hw1 : IntKind.u64.wrap (g2 * 65536) = g2 * 65536 := by rw [IntKind.wrap_u64]; omega
        have hw2 : IntKind.u64.wrap (g2 * 65536 + g1) = g2 * 65536 + g1 := by rw [IntKind.wrap_u64]; omega
        have hw3 : IntKind.u32.wrap (g2 * 65536 + g1) = g2 * 65536 + g1 := by rw [IntKind.wrap_u32]; omega
        go_wp2_with fail
        go_region
        all_goals
          go_wp2_with fail
          refine ret_IF (b := false) (c := 0) (v := 0) rfl rfl rfl rfl (dn.out.1.grown (gr_drew (gr_refl _ none)) (by simp)) ?_
          have hrr := HR0.out
          simp [heq] at hrr
          obtain ⟨rfl, rfl, rfl, rfl⟩ := hrr
          exact ⟨rfl, dn.out.2.1.drew, dn.out.2.2.drew⟩
      · clear GT2
        go_wp2_with fail
        go_region
        all_goals
          go_wp2_with fail
          refine ret_IF (b := true) (c := ca2) (v := vl2) rfl rfl rfl rfl (dn.out.1.grown (gr_drew (gr_refl _ none)) (by simp)) ?_
          have hrr := HR0.out
          simp [heq] at hrr
          obtain ⟨rfl, rfl, rfl, rfl⟩ := hrr
          exact ⟨rfl, dn.out.2.1.drew, dn.out.2.2.drew⟩
    · have hF2 := HU.out.1
      obtain ⟨⟨z0, z1, z2⟩, fy, lt⟩ := fault_free hF2.flt
      have dn := Lib.hid (hF2.done (.bool false) (.int .i64 0) (.int .u64 0))
      have hw3 : IntKind.u32.wrap g1 = g1 := by rw [IntKind.wrap_u32]; omega
      have hne : (g1 % 4 == 3) = false := by simpa using heq
      clear hF2 HU s0 ls T2' X64' GT2
      go_wp2_with fail
      go_region
      all_goals
        go_wp2_with fail
        refine ret_IF (b := false) (c := 0) (v := 0) rfl rfl rfl rfl (dn.out.1.grown (gr_drew (gr_refl _ none)) (by simp)) ?_
        have hrr := HR0.out
        simp [heq] at hrr
        obtain ⟨rfl, rfl, rfl, rfl⟩ := hrr
        exact ⟨rfl, dn.out.2.1.drew, dn.out.2.2.drew⟩
  · obtain ⟨⟨z0, z1, z2⟩, fy, lt⟩ := fault_free hF2.flt
    have dn := Lib.hid (hF2.done (.bool true) (.int .i64 ca) (.int .u64 vl))
    clear hF2 q1 GT1 GT2 T2' X64'
    go_wp2_with fail
    go_region
    all_goals
      go_wp2_with fail
      refine ret_IF (b := true) (c := ca) (v := vl) rfl rfl rfl rfl (dn.out.1.grown (gr_drew (gr_refl _ none)) (by simp)) ?_
      have hrr := HR0.out
      simp at hrr
      obtain ⟨rfl, rfl, rfl, rfl⟩ := hrr
      exact ⟨rfl, dn.out.2.1.drew, dn.out.2.2.drew⟩
/-- Two rows that are the same. -/
theorem rSame_c (v1 v2 : Value) (all : List Int) (h8 : all.length ≤ 8) (w : World) (A1 A2 : Option Addr) (c1 c2 : Nat)
    (e1 : v1 = .slice A1 all.length c1) (e2 : v2 = .slice A2 all.length c2)
    (h1 : ∀ k, k < all.length → ∃ g, A1 = some ⟨g, 0, none⟩ ∧ g < w.heap.size ∧ w.cell? ⟨g, k, none⟩ = some (.int .u64 (all.getD k 0)))
    (h2 : ∀ k, k < all.length → ∃ g, A2 = some ⟨g, 0, none⟩ ∧ g < w.heap.size ∧ w.cell? ⟨g, k, none⟩ = some (.int .u64 (all.getD k 0))) :
    Calls Try.prog 42 #[v1, v2] w fun e w' => e = .returned (.bool true) ∧ ∃ N, w' = w.drewN N := by
  subst e1 e2
  obtain ⟨N, hN⟩ : ∃ N, N = all.length := ⟨_, rfl⟩
  have H1 := Lib.hid h1
  have H2 := Lib.hid h2
  have HN := Lib.hid hN
  rw [← hN] at h8 ⊢
  clear h1 h2 hN
  go_enter Try.func42, Try.ntmps42
  go_wp2_with fail
  go_loopw [5] (fun x wr => ∃ k d : Nat, k ≤ N ∧ x = .int .i64 k ∧ wr = w.drewN d) (fun x _ => N - (intOf x).toNat)
  case atStart => exact ⟨0, 0, Nat.zero_le _, rfl, rfl⟩
  case round =>
    obtain ⟨k, d, hk, rfl, rfl⟩ := hrel
    by_cases hlt : k < N
    · obtain ⟨g1, rfl, hl1, hcell1⟩ := H1.out k (by rw [← HN.out]; exact hlt)
      obtain ⟨g2, rfl, hl2, hcell2⟩ := H2.out k (by rw [← HN.out]; exact hlt)
      generalize all.getD k 0 = a at *
      go_wp2_with fail
      go_quiet (fail)
      go_wp2_with fail
      go_roundw
      case rel => exact ⟨k + 1, _, by omega, by go_num, rfl⟩
      case measure => simp [intOf]; omega
    · obtain rfl : k = N := by omega
      go_wp2_with fail
      go_ret
      exact ⟨rfl, d, rfl⟩
end Go.Proofs.Ytkfmcbhoendocaa
end

section
namespace Go.Proofs.Ytkfmcbhoendocaa
open Go Go.RowKit W M D A C P K
set_option linter.unusedVariables false
set_option linter.unusedSimpArgs false

structure Opq where
  kd : Int
  c : Cs
  priv : Int
  how : Int
  va : Int
  x : Int
  n : Int
def opQ (o : Opq) : List Value := .int .u8 o.kd :: (lC o.c ++ [.int .i64 o.priv, .int .i64 o.how, .int .u64 o.va, .int .u64 o.x, .int .u8 o.n])
structure OqFine (o : Opq) : Prop where
  kd : 0 ≤ o.kd ∧ o.kd ≤ 255
  c : C.Good o.c
  priv : I64 o.priv
  how : I64 o.how
  va : B64 o.va
  x : B64 o.x
  n : 0 ≤ o.n ∧ o.n ≤ 255
/-- The elements: m of them, eighteen cells each, below block B. -/
def Oqs (w : World) (B : Nat) (A : Option Addr) (m : Nat) (F : Nat → Opq) : Prop :=
  ∀ i, i < m → ∃ ad, A = some ad ∧ ad.block < B ∧ (∀ j, j < 18 → w.cell? (ad.add (i * 18 + j)) = (opQ (F i))[j]?) ∧ OqFine (F i)
theorem Oqs.go {w w' : World} {A : Option Addr} {m : Nat} {F : Nat → Opq} (h : Oqs w w.heap.size A m F) (hg : w.grownBy w' none) : Oqs w' w.heap.size A m F := fun i hi => by
  obtain ⟨ad, e, hb, hc, hf⟩ := h i hi
  exact ⟨ad, e, hb, fun j hj => (cell_grown hg (by rw [add_block]; exact hb) (by simp)).trans (hc j hj), hf⟩
theorem pick_oq {n : Nat} {Q : Nat → Opq → Prop} (h : ∀ i, i < n → ∃ x, Q i x) : ∃ F : Nat → Opq, ∀ i, i < n → Q i (F i) := by
  refine ⟨fun i => if hi : i < n then Classical.choose (h i hi) else ⟨0, [], 0, 0, 0, 0, 0⟩, fun i hi => ?_⟩
  show Q i (if hi : i < n then Classical.choose (h i hi) else ⟨0, [], 0, 0, 0, 0, 0⟩)
  rw [dif_pos hi]
  exact Classical.choose_spec (h i hi)
theorem oqs_of {w : World} {A : Option Addr} {m : Nat} (el : ∀ i, i < m → ∃ ad, A = some ad ∧ ad.block < w.heap.size ∧ ∃ (x0 : Int) (x1 : Int) (x2 : Int) (x3 : Int) (x4 : Int) (x5 : Int) (x6 : Int) (x7 : Int) (x8 : Int) (x9 : Int) (x10 : Int) (x11 : Int) (x12 : Int) (x13 : Int) (x14 : Int) (x15 : Int) (x16 : Int) (x17 : Int), (w.cell? (ad.add (i * 18 + 0)) = some (.int .u8 x0) ∧ (Lit.int .u8 x0).wf = true) ∧ (w.cell? (ad.add (i * 18 + 1)) = some (.int .u64 x1) ∧ (Lit.int .u64 x1).wf = true) ∧ (w.cell? (ad.add (i * 18 + 2)) = some (.int .u64 x2) ∧ (Lit.int .u64 x2).wf = true) ∧ (w.cell? (ad.add (i * 18 + 3)) = some (.int .u64 x3) ∧ (Lit.int .u64 x3).wf = true) ∧ (w.cell? (ad.add (i * 18 + 4)) = some (.int .u64 x4) ∧ (Lit.int .u64 x4).wf = true) ∧ (w.cell? (ad.add (i * 18 + 5)) = some (.int .u64 x5) ∧ (Lit.int .u64 x5).wf = true) ∧ (w.cell? (ad.add (i * 18 + 6)) = some (.int .u64 x6) ∧ (Lit.int .u64 x6).wf = true) ∧ (w.cell? (ad.add (i * 18 + 7)) = some (.int .u64 x7) ∧ (Lit.int .u64 x7).wf = true) ∧ (w.cell? (ad.add (i * 18 + 8)) = some (.int .u64 x8) ∧ (Lit.int .u64 x8).wf = true) ∧ (w.cell? (ad.add (i * 18 + 9)) = some (.int .u64 x9) ∧ (Lit.int .u64 x9).wf = true) ∧ (w.cell? (ad.add (i * 18 + 10)) = some (.int .u64 x10) ∧ (Lit.int .u64 x10).wf = true) ∧ (w.cell? (ad.add (i * 18 + 11)) = some (.int .u64 x11) ∧ (Lit.int .u64 x11).wf = true) ∧ (w.cell? (ad.add (i * 18 + 12)) = some (.int .u64 x12) ∧ (Lit.int .u64 x12).wf = true) ∧ (w.cell? (ad.add (i * 18 + 13)) = some (.int .i64 x13) ∧ (Lit.int .i64 x13).wf = true) ∧ (w.cell? (ad.add (i * 18 + 14)) = some (.int .i64 x14) ∧ (Lit.int .i64 x14).wf = true) ∧ (w.cell? (ad.add (i * 18 + 15)) = some (.int .u64 x15) ∧ (Lit.int .u64 x15).wf = true) ∧ (w.cell? (ad.add (i * 18 + 16)) = some (.int .u64 x16) ∧ (Lit.int .u64 x16).wf = true) ∧ (w.cell? (ad.add (i * 18 + 17)) = some (.int .u8 x17) ∧ (Lit.int .u8 x17).wf = true)) :
    ∃ F : Nat → Opq, Oqs w w.heap.size A m F := by
  obtain ⟨F, hh⟩ := pick_oq (n := m) (Q := fun i o => ∃ ad, A = some ad ∧ ad.block < w.heap.size ∧ (∀ j, j < 18 → w.cell? (ad.add (i * 18 + j)) = (opQ o)[j]?) ∧ OqFine o) (fun i hi => by
    obtain ⟨ad, e, hb, x0, x1, x2, x3, x4, x5, x6, x7, x8, x9, x10, x11, x12, x13, x14, x15, x16, x17, ⟨h0, b0⟩, ⟨h1, b1⟩, ⟨h2, b2⟩, ⟨h3, b3⟩, ⟨h4, b4⟩, ⟨h5, b5⟩, ⟨h6, b6⟩, ⟨h7, b7⟩, ⟨h8, b8⟩, ⟨h9, b9⟩, ⟨h10, b10⟩, ⟨h11, b11⟩, ⟨h12, b12⟩, ⟨h13, b13⟩, ⟨h14, b14⟩, ⟨h15, b15⟩, ⟨h16, b16⟩, ⟨h17, b17⟩⟩ := el i hi
    refine ⟨⟨x0, [x1, x2, x3, x4, x5, x6, x7, x8, x9, x10, x11, x12], x13, x14, x15, x16, x17⟩, ad, e, hb, fun j hj => ?_, ⟨bounds_u8 b0, good12 (bounds_u64 b1) (bounds_u64 b2) (bounds_u64 b3) (bounds_u64 b4) (bounds_u64 b5) (bounds_u64 b6) (bounds_u64 b7) (bounds_u64 b8) (bounds_u64 b9) (bounds_u64 b10) (bounds_u64 b11) (bounds_u64 b12), bounds_i64 b13, bounds_i64 b14, bounds_u64 b15, bounds_u64 b16, bounds_u8 b17⟩⟩
    obtain rfl | rfl | rfl | rfl | rfl | rfl | rfl | rfl | rfl | rfl | rfl | rfl | rfl | rfl | rfl | rfl | rfl | rfl : j = 0 ∨ j = 1 ∨ j = 2 ∨ j = 3 ∨ j = 4 ∨ j = 5 ∨ j = 6 ∨ j = 7 ∨ j = 8 ∨ j = 9 ∨ j = 10 ∨ j = 11 ∨ j = 12 ∨ j = 13 ∨ j = 14 ∨ j = 15 ∨ j = 16 ∨ j = 17 := by omega
    · exact h0
    · exact h1
    · exact h2
    · exact h3
    · exact h4
    · exact h5
    · exact h6
    · exact h7
    · exact h8
    · exact h9
    · exact h10
    · exact h11
    · exact h12
    · exact h13
    · exact h14
    · exact h15
    · exact h16
    · exact h17)
  exact ⟨F, hh⟩
theorem opQ_length (o : Opq) (hc : o.c.length = 12) : (opQ o).length = 18 := by unfold opQ lC; simp [hc]
theorem opQ_one (o : Opq) : ∀ v ∈ opQ o, v.oneCell' = true := by
  intro v hv
  unfold opQ lC at hv
  simp only [List.mem_cons, List.mem_append, List.mem_map, List.not_mem_nil, or_false] at hv
  rcases hv with rfl | ⟨x, -, rfl⟩ | rfl | rfl | rfl | rfl | rfl <;> rfl
/-- What is done, stored into a new variable. -/
theorem wpList_store_oq {ops : Array Oper} {rest : List Oper} {op : Oper} {a : Act} {w : World} {Q : Exit → Act → World → Prop} (hgd : op.guard = none) (x y : Operand) (ho : op.op = .store 86 x y)
    (o : Opq) (hc : o.c.length = 12) (z : List Value) (hz : z.length = 18) (hx : a.eval x = .pointer (some ⟨w.heap.size, 0, none⟩)) (hy : a.eval y = .agg (opQ o).toArray)
    (h : wpList Try.prog ops Q rest (a.put op.dst undef) ((w.alloc (.cells z.toArray 86)).setCells w.heap.size 0 (opQ o))) : wpList Try.prog ops Q (op :: rest) a (w.alloc (.cells z.toArray 86)) := by
  have hl := opQ_length o hc
  have ht := fresh_there w 86 z
  rw [hz] at ht
  have hsz : (opQ o).toArray.size = 18 := hl
  refine wpList_store_mid hgd 86 x y ho w.heap.size 0 (opQ o).toArray hx hy (by rw [hsz]; exact ht) (by rw [hsz]; kernel_rfl) (all_oneCell_toArray (opQ_one o)) ?_
  exact h
/-! ### Both sides -/
theorem held_fq {w w' : World} {B p most u gm : Nat} {v : Value} {n : Int} {L : List T.Lf} {lu lm : List Value} (h : HAt w B p most v n L) (hu : Row w u 73 lu) (hm : Row w gm 5 lm) (hf : Fq u gm w w') : HAt w' B p most v n L := by
  refine ⟨hf.row h.ptr (h.ptr.apart hu (by decide)) (h.ptr.apart hm (by decide)), ?_, h.fine, h.le, h.most, h.own, h.num⟩
  rcases h.arr.parts with ⟨e1, e2⟩ | ⟨g, cap, cur, e1, hB, hl⟩
  · rw [e1, e2]; exact T.Arr.nil ..
  · rw [e1]; exact T.Laid.arr ⟨hf.row hl.row (hl.row.apart hu (by decide)) (hl.row.apart hm (by decide)), hl.len, hl.le, hl.cap, hl.tk⟩ hB
theorem Spc.fq {w ws : World} {B pm gm : Nat} {bs : List Int} {tk : Option Nat} {most most2 : Nat} {n n2 : Int} {L L2 : List T.Lf} {ys pm' gm' u : Nat} {bs2 : List Int} {kp : Bool} (h : Spc w B pm gm bs tk most n L) (q : QS w ys pm' gm' bs2 u kp most2 n2 L2) (hne : gm ≠ gm') (hf : Fq u gm' w ws) : Spc ws B pm gm bs tk most n L := by
  obtain ⟨lu, hu⟩ := q.ub
  refine ⟨⟨q.row h.mem.ptr (by decide) (by decide) hf, hf.row h.mem.row (h.mem.row.apart hu (by decide)) hne, h.mem.byt, h.mem.len⟩, h.own, ?_⟩
  have := h.tl
  unfold Tk at *
  split at this
  · exact this
  · obtain ⟨v, hv⟩ := this
    exact ⟨v, held_fq hv hu q.mem.row hf⟩
theorem QS.fr {w ws : World} {B pm gm : Nat} {bs : List Int} {tk : Option Nat} {most most2 : Nat} {n n2 : Int} {L L2 : List T.Lf} {ys pm' gm' u : Nat} {bs2 : List Int} {kp : Bool} (q : QS w ys pm' gm' bs2 u kp most2 n2 L2) (h : Spc w B pm gm bs tk most n L) (hne : gm' ≠ gm) (hF : Fr B gm w ws) : QS ws ys pm' gm' bs2 u kp most2 n2 L2 := by
  obtain ⟨lu, hu⟩ := q.ub
  refine ⟨hF.row q.str (by decide) (by decide) (q.str.apart h.mem.row (by decide)), QAt.fr q.mem h.mem hF hne, ⟨lu, hF.row hu (by decide) (by decide) (hu.apart h.mem.row (by decide))⟩, ?_⟩
  have := q.tl
  unfold Kp at *
  cases kp
  · exact this
  · obtain ⟨v, hv⟩ := this
    exact ⟨v, hv.rows (fun g l hr => hF.row hr (by decide) (by decide) (hr.apart h.mem.row (by decide))) (fun g l hr => hF.row hr (by decide) (by decide) (hr.apart h.mem.row (by decide)))⟩
theorem Spc.less {w : World} {B B' pm gm : Nat} {bs : List Int} {tk : Option Nat} {most : Nat} {n : Int} {L : List T.Lf} (h : Spc w B pm gm bs tk most n L) (hB : B' ≤ B) : Spc w B' pm gm bs tk most n L := by
  refine ⟨h.mem, Nat.le_trans hB h.own, ?_⟩
  have := h.tl
  unfold Tk at *
  split at this
  · exact this
  · obtain ⟨v, hv⟩ := this
    exact ⟨v, held_less hv hB⟩
structure Sg (w : World) (T0 : TypeId) (t : Nat) (l : List Value) (s pm gm : Nat) (o : Option Addr) (bs : List Int) (tk : Option Nat) (ys pm' gm' : Nat) (bs2 : List Int) (u : Nat) (kp : Bool) (most : Nat) (n n2 : Int) (L L2 : List T.Lf) (wr : World) : Prop where
  opr : Row wr t T0 l
  spa : Row wr s 81 [.pointer (some ⟨pm, 0, none⟩), .pointer o]
  one : Spc wr w.heap.size pm gm bs tk most n L
  two : QS wr ys pm' gm' bs2 u kp most n2 L2
  gr : w.grownBy wr none
  lo : w.heap.size ≤ u ∧ w.heap.size ≤ gm' ∧ gm ≠ gm'
section
variable {w wr ws : World} {T0 : TypeId} {t s pm gm ys pm' gm' u most : Nat} {l : List Value} {o : Option Addr} {bs bs2 cs : List Int} {tk : Option Nat} {kp : Bool} {n n2 n' : Int} {L L2 L' : List T.Lf}
theorem Sg.keep (h : Sg w T0 t l s pm gm o bs tk ys pm' gm' bs2 u kp most n n2 L L2 wr) (hg : wr.grownBy ws none) : Sg w T0 t l s pm gm o bs tk ys pm' gm' bs2 u kp most n n2 L L2 ws :=
  ⟨h.opr.grown hg (by simp), h.spa.grown hg (by simp), h.one.keep hg, h.two.keep hg, gr_trans h.gr hg, h.lo⟩
/-- Another row of what is done. -/
theorem Sg.op {T1 : TypeId} {t1 : Nat} {l1 : List Value} (h : Sg w T0 t l s pm gm o bs tk ys pm' gm' bs2 u kp most n n2 L L2 wr) (hr : Row wr t1 T1 l1) : Sg w T1 t1 l1 s pm gm o bs tk ys pm' gm' bs2 u kp most n n2 L L2 wr := ⟨hr, h.spa, h.one, h.two, h.gr, h.lo⟩
/-- The program has gone on. -/
theorem Sg.prog (h : Sg w T0 t l s pm gm o bs tk ys pm' gm' bs2 u kp most n n2 L L2 wr) (h1 : T0 ≠ 122) (h2 : T0 ≠ 135) (h3 : T0 ≠ 5) (hS : Spc ws w.heap.size pm gm cs tk most n' L') (hF : Fr w.heap.size gm wr ws) : Sg w T0 t l s pm gm o cs tk ys pm' gm' bs2 u kp most n' n2 L' L2 ws :=
  ⟨hF.row h.opr h1 h2 (h.opr.apart h.one.mem.row h3), hF.row h.spa (by decide) (by decide) (h.spa.apart h.one.mem.row (by decide)), hS, h.two.fr h.one h.lo.2.2.symm hF, hF.grown h.gr (Nat.le_refl _), h.lo⟩
/-- The document has. -/
theorem Sg.doc (h : Sg w T0 t l s pm gm o bs tk ys pm' gm' bs2 u kp most n n2 L L2 wr) (h1 : T0 ≠ 73) (h2 : T0 ≠ 5) (hQ : QS ws ys pm' gm' cs u kp most n' L') (hf : Fq u gm' wr ws) : Sg w T0 t l s pm gm o bs tk ys pm' gm' cs u kp most n n' L L' ws :=
  ⟨h.two.row h.opr h1 h2 hf, h.two.row h.spa (by decide) (by decide) hf, h.one.fq h.two h.lo.2.2 hf, hQ, hf.grown h.gr h.lo.1 h.lo.2.1, h.lo⟩
theorem Sg.ownP {g : Nat} {t' : TypeId} {l' : List Value} (h : Sg w T0 t l s pm gm o bs tk ys pm' gm' bs2 u kp most n n2 L L2 wr) (hr : Row wr g t' l') (h1 : t' ≠ 122) (h2 : t' ≠ 135) (h3 : t' ≠ 5) (hF : Fr w.heap.size gm wr ws) : Row ws g t' l' := hF.row hr h1 h2 (hr.apart h.one.mem.row h3)
theorem Sg.ownD {g : Nat} {t' : TypeId} {l' : List Value} (h : Sg w T0 t l s pm gm o bs tk ys pm' gm' bs2 u kp most n n2 L L2 wr) (hr : Row wr g t' l') (h1 : t' ≠ 73) (h2 : t' ≠ 5) (hf : Fq u gm' wr ws) : Row ws g t' l' := h.two.row hr h1 h2 hf
/-- Addresses that the program told stand. -/
theorem adr_keep {v : Value} {all : List Int} {lo : Nat} (h : Adr wr v all lo) (hg : wr.grownBy ws none) : Adr ws v all lo := by
  rcases h with h | ⟨g, h1, h2, h3⟩
  · exact .inl h
  · exact .inr ⟨g, h1, h2.grown hg (by simp), h3⟩
theorem Sg.adr {v : Value} {all : List Int} {lo : Nat} (h : Sg w T0 t l s pm gm o bs tk ys pm' gm' bs2 u kp most n n2 L L2 wr) (hA : Adr wr v all lo) (hf : Fq u gm' wr ws) : Adr ws v all lo := by
  rcases hA with hA | ⟨g, h1, h2, h3⟩
  · exact .inl hA
  · exact .inr ⟨g, h1, h.ownD h2 (by decide) (by decide) hf, h3⟩
theorem adr_shape {v : Value} {all : List Int} {lo : Nat} (h : Adr w v all lo) : all.length ≤ 8 ∧ ∃ A cap, v = .slice A all.length cap ∧ ∀ k, k < all.length → ∃ g, A = some ⟨g, 0, none⟩ ∧ g < w.heap.size ∧ w.cell? ⟨g, k, none⟩ = some (.int .u64 (all.getD k 0)) := by
  rcases h with ⟨rfl, rfl⟩ | ⟨g, rfl, hR, -, -, h8⟩
  · exact ⟨Nat.zero_le _, none, 0, rfl, fun k hk => absurd hk (by simp)⟩
  · refine ⟨h8, _, _, rfl, fun k hk => ⟨g, rfl, hR.lt, ?_⟩⟩
    rw [hR.cell]
    simp [wrds, List.getD, List.getElem?_eq_getElem hk]
end
/-- A space, two times: with what keeps leaves, or without. -/
theorem both13_c (most : Int) (hm : I64 most) (a : Int) (ha : 0 ≤ a ∧ a ≤ 255) (A : Option Addr) (n k : Nat) (hnk : n ≤ k) (hk : k ≤ 9223372036854775807) (f h : Nat → Int) (w : World) (hE : Elems w w.heap.size A n f h) :
    Calls Try.prog 34 #[.agg #[.int .u8 a, .slice A n k], .int .i64 most] w fun e w' => ∃ pm gm p' g' ys tr tk kp, e = .returned (.tuple #[vS pm tk, .pointer (some ⟨ys, 0, none⟩), .bool true]) ∧
      Spc w' w.heap.size pm gm (fillV f h (min n 64) (List.replicate ((1 + a % 16).toNat * 4096) 0)) tk (T.mostV most) 0 [] ∧ QS w' ys p' g' (fillV f h (min n 64) (List.replicate ((1 + a % 16).toNat * 4096) 0)) tr kp (T.mostV most) 0 [] ∧ w.grownBy w' none ∧ w.heap.size ≤ tr ∧ w.heap.size ≤ g' ∧ gm ≠ g' := by
  by_cases hneg : most < 0
  · refine (bothN_c most hm hneg a ha A n k hnk hk f h w hE).mono ?_
    rintro e w' ⟨pm, gm, p', g', ys, tr, rfl, hA, hgm, hQ, hgg, hY, hTr, hG, hgp, htr⟩
    have hz : T.mostV most = 0 := by unfold T.mostV; omega
    refine ⟨pm, gm, p', g', ys, tr, none, false, rfl, ⟨hA, hgm, hz, rfl⟩, ⟨hY, hQ, ⟨_, hTr⟩, ?_⟩, hG, htr, hgp, hgg.symm⟩
    unfold Kp
    rw [if_neg (by decide)]
    exact ⟨hz, rfl⟩
  · refine (bothT_c most hm (by omega) a ha A n k hnk hk f h w hE).mono ?_
    rintro e w' ⟨pm, gm, p', g', ys, tr, tl, rfl, hS, hQ, hgg, hY, hG, hgp, hTr, htr⟩
    refine ⟨pm, gm, p', g', ys, tr, some tl, true, rfl, hS, ⟨hY, hQ, ⟨_, hTr⟩, ?_⟩, hG, htr, hgp, hgg.symm⟩
    unfold Kp
    rw [if_pos rfl]
    exact ⟨_, hTr, Or.inl ⟨rfl, rfl⟩, fun k hk => (by cases hk), Nat.zero_le _, T.most_le most, (by decide)⟩
end Go.Proofs.Ytkfmcbhoendocaa
end
