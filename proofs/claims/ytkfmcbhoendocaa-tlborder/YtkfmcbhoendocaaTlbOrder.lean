/-
  Proved: for any most, any addresses, and whichever asids and whichever are global, the law TlbOrder returns true: of leaves that are kept the last ones are there, and are found by their address and asid.
  Conditions: none beyond the statement's own.
-/
import Derived.Test.YtkfmcbhoendocaaRows
import Derived.Test.YtkfmcbhoendocaaLayO
import Derived.Lib.Hide
import Derived.Deep.Cut
import Derived.Deep.CutBlock
import Derived.Test.YtkfmcbhoendocaaTlbSh
import Derived.Test.YtkfmcbhoendocaaTlbB
import Derived.Test.YtkfmcbhoendocaaTlbZ
import Derived.StillTailTactics
import Derived.Deep.RegionHeld3
import Derived.BigQuiet
import Derived.IntWalk
namespace Go.Proofs.Ytkfmcbhoendocaa.tlbOrder
open Go Go.ChangeShapes Go.WideShapes Go.ChangeAt Go.RowKit W M D A C P K
set_option linter.unusedVariables false
set_option linter.unusedSimpArgs false

/-- The elements of a slice of numbers. -/
def Nums (w : World) (B : Nat) (A : Option Addr) (m : Nat) (f : Nat → Int) : Prop := ∀ i, i < m → ∃ ad, A = some ad ∧ ad.block < B ∧ w.cell? (ad.add i) = some (.int .u64 (f i)) ∧ B64 (f i)
theorem nums_of {w : World} {A : Option Addr} {m : Nat} (el : ∀ i, i < m → ∃ ad, A = some ad ∧ ad.block < w.heap.size ∧ ∃ (x0 : Int), (w.cell? (ad.add (i * 1 + 0)) = some (.int .u64 x0) ∧ (Lit.int .u64 x0).wf = true)) : ∃ f : Nat → Int, Nums w w.heap.size A m f := by
  have h2 : ∀ i, i < m → ∃ x : Int, ∃ ad, A = some ad ∧ ad.block < w.heap.size ∧ w.cell? (ad.add i) = some (.int .u64 x) ∧ B64 x := fun i hi => by
    obtain ⟨ad, e, hb, x, hc, hw⟩ := el i hi
    rw [Nat.mul_one, Nat.add_zero] at hc
    exact ⟨x, ad, e, hb, hc, bounds_u64 hw⟩
  refine ⟨fun i => if hi : i < m then Classical.choose (h2 i hi) else 0, fun i hi => ?_⟩
  have h := Classical.choose_spec (h2 i hi)
  rw [show (fun i => if hi : i < m then Classical.choose (h2 i hi) else 0) i = Classical.choose (h2 i hi) from dif_pos hi]
  exact h
theorem Nums.go {w w' : World} {A : Option Addr} {m : Nat} {f : Nat → Int} (h : Nums w w.heap.size A m f) (hg : w.grownBy w' none) : Nums w' w.heap.size A m f := fun i hi => by
  obtain ⟨ad, e, hb, hc, hf⟩ := h i hi
  have hh := hg.block ad.block hb (by simp)
  refine ⟨ad, e, hb, ?_, hf⟩
  rw [← hc]
  unfold World.cell?
  rw [add_block, hh]

theorem div_64 {b : Int} (hb : B64 b) (i : Nat) : B64 (b / 2 ^ i) := by
  unfold B64 at hb ⊢
  have h1 : (1 : Int) ≤ 2 ^ i := by
    have : (0 : Int) < 2 ^ i := Int.pow_pos (by decide)
    omega
  have h2 : 0 ≤ b / 2 ^ i := Int.ediv_nonneg hb.1 (by omega)
  have h3 : b / 2 ^ i ≤ b := Int.ediv_le_self _ hb.1
  omega
theorem drew_held {w : World} {B p most : Nat} {v : Value} {n : Int} {L : List T.Lf} (h : HAt w B p most v n L) : HAt w.drew B p most v n L := ⟨h.ptr, h.arr, h.fine, h.le, h.most, h.own, h.num⟩
theorem but_own_grown {w w1 w2 : World} {B p most : Nat} {v : Value} {n : Int} {L : List T.Lf} (hg : w.grownBy w1 none) (h : HAt w1 B p most v n L) (hB : w.heap.size ≤ B) (hb : T.But p v w1.drew w2) : w.grownBy w2 none :=
  but_grown (gr_drew hg) (drew_held h) hB hb

theorem on_grown {w w1 w2 : World} {a : Addr} {u : Value} {B p most : Nat} {v : Value} {n : Int} {L : List T.Lf} (hg : w1.grownBy w2 none) (h : w1.cell? a = some u ∧ HAt w1 B p most v n L ∧ w.grownBy w1 none) :
    w2.cell? a = some u ∧ HAt w2 B p most v n L ∧ w.grownBy w2 none := ⟨hg.cell h.1 (by simp), h.2.1.kept hg, gr_trans h.2.2 hg⟩
theorem on_three {w w1 : World} {ad : Addr} {i : Nat} {u : Value} {B p most : Nat} {v : Value} {n : Int} {L : List T.Lf} {g : Nat} {l : List Value} {x y z : Value} (h : w1.cell? (ad.add i) = some u ∧ HAt w1 B p most v n L ∧ w.grownBy w1 none) (hr : Row w1 g 52 l) (hb : ad.block < w.heap.size) (hq : w.heap.size ≤ g) :
    (((w1.setCell ⟨g, 0, none⟩ x).setCell ⟨g, 1, none⟩ y).setCell ⟨g, 2, none⟩ z).cell? (ad.add i) = some u ∧ HAt (((w1.setCell ⟨g, 0, none⟩ x).setCell ⟨g, 1, none⟩ y).setCell ⟨g, 2, none⟩ z) B p most v n L ∧ w.grownBy (((w1.setCell ⟨g, 0, none⟩ x).setCell ⟨g, 1, none⟩ y).setCell ⟨g, 2, none⟩ z) none := by
  obtain ⟨h1, h2, h3⟩ := h
  have hp : p ≠ g := h2.ptr.apart hr (by decide)
  have hv := h2.arr.ne hr (by decide)
  have hgr : w1.grownBy (((w1.setCell ⟨g, 0, none⟩ x).setCell ⟨g, 1, none⟩ y).setCell ⟨g, 2, none⟩ z) (some g) := gr_set (gr_set (gr_set (gr_refl w1 _) _) _) _
  refine ⟨hgr.cell h1 (some_ne (by rw [add_block]; omega)), ⟨h2.ptr.grown hgr (some_ne hp), h2.arr.keep hgr ?_, h2.fine, h2.le, h2.most, h2.own, h2.num⟩, gr_row (gr_trans (gr_none h3 _) hgr) hq⟩
  rcases hq' : v.ownBlock with _ | g'
  · exact .inl rfl
  · right
    rw [hq'] at hv
    exact fun e => hv e.symm

set_option maxRecDepth 100000 in
set_option maxHeartbeats 8000000 in
theorem walk (w : World) (a0 : Int) (w0 : (Lit.int .i64 a0).wf = true) (A1 : Option Addr) (m1 c1 : Nat) (mc1 : m1 ≤ c1) (cc1 : c1 ≤ 9223372036854775807) (el1 : ∀ i, i < m1 → ∃ ad, A1 = some ad ∧ ad.block < w.heap.size ∧ ∃ (x0 : Int), (w.cell? (ad.add (i * 1 + 0)) = some (.int .u64 x0) ∧ (Lit.int .u64 x0).wf = true)) (a2 : Int) (w2 : (Lit.int .u64 a2).wf = true) :
    Calls Try.prog 6 #[.int .i64 a0, .slice A1 m1 c1, .int .u64 a2] w fun e w' => e = .returned (.bool true) ∧ Below w.heap.size w w' := by
  have hm0 : I64 a0 := bounds_i64 w0
  have hb0 : B64 a2 := bounds_u64 w2
  obtain ⟨f, hN⟩ := nums_of el1
  have HN := Lib.hid hN
  have NW := Lib.hid (fun W => TNew_c a0 hm0 W)
  have hmost := T.most_le a0
  have hme : ((T.mostV a0 : Nat) : Int) = min (max a0 0) 8 := by unfold T.mostV; omega
  have HME := Lib.hid hme
  generalize T.mostV a0 = most at *
  obtain ⟨M, hM⟩ : ∃ M : Nat, (M : Int) = min (m1 : Int) 20 := ⟨(min (m1 : Int) 20).toNat, by omega⟩
  have hM1 : M ≤ m1 := by omega
  have hM20 : M ≤ 20 := by omega
  have HM := Lib.hid hM
  clear w0 w2 el1 hN hme hM
  unfold I64 at hm0
  go_enter Try.func6, Try.ntmps6
  go_wp2_with fail
  refine (shown12_c _).mono ?_
  rintro e w1 ⟨rfl, hG⟩
  have HG1 := Lib.hid hG
  clear hG
  go_wp2_with fail
  refine (NW.out _).mono ?_
  rintro e w3 ⟨rfl, hN, hG⟩
  have HH := Lib.hid (And.intro hN (gr_trans HG1.out hG))
  have hge := HG1.out.size
  clear hN hG NW HG1
  generalize w1.heap.size = p at *
  have e1 : min (max a0 0) 8 = (most : Int) := HME.out.symm
  have e2 : min (m1 : Int) 20 = (M : Int) := HM.out.symm
  go_wp2_with (first | (refine wpList_bi_eq rfl .max (.tmp 25) (.const (.int .i64 0)) 3 rfl (fun cs => run_max _ _ _ cs _) ?_) | (refine wpList_bi_eq rfl .min (.tmp 26) (.const (.int .i64 8)) 3 rfl (fun cs => run_min _ _ _ cs _) ?_; rw [e1]) | (refine wpList_bi_eq rfl .min (.tmp 29) (.const (.int .i64 20)) 3 rfl (fun cs => run_min _ _ _ cs _) ?_; rw [e2]))
  clear hm0 e1 e2
  go_loopw [11] (fun i wr => ∃ (j : Nat) (v : Value), i = .int .i64 j ∧ j ≤ M ∧ HAt wr p p most v 0 (T.rowZ f a2 most j) ∧ w.grownBy wr none) (fun i _ => M - (intOf i).toNat)
  case atStart => exact ⟨0, _, rfl, Nat.zero_le _, by rw [T.row_zero]; exact HH.out.1, HH.out.2⟩
  case round =>
    clear HH
    obtain ⟨j, v, rfl, hj, hH, hG⟩ := hrel
    by_cases hlt : j < M
    · obtain ⟨ad, rfl, hadb, u0, hf0⟩ := (HN.out.go hG) j (by omega)
      have hj20 : j < 20 := by omega
      have hjm : j < m1 := by omega
      have hjlt : (j : Int) < (M : Int) := by omega
      have hadw : ad.block < wr.heap.size := by have := hG.size; omega
      have HHH := Lib.hid hH
      have HGG := Lib.hid hG
      have hsz : p ≤ wr.heap.size := by have := hH.ptr.lt; omega
      obtain ⟨bj, hbj⟩ : ∃ b, b = T.bitZ a2 j := ⟨_, rfl⟩
      obtain ⟨q, hq⟩ : ∃ q : Nat, q = 20 + j := ⟨_, rfl⟩
      obtain ⟨bq, hbq⟩ : ∃ b, b = T.bitZ a2 q := ⟨_, rfl⟩
      have hdv := div_64 hb0 j
      have hdq := div_64 hb0 q
      have hr1 : bits .and .u64 (a2 / 2 ^ j) 1 = bj := by rw [T.and_one hdv, hbj]; rfl
      have hr2 : bits .and .u64 (a2 / 2 ^ q) 1 = bq := by rw [T.and_one hdq, hbq]; rfl
      have hw20 : IntKind.i64.wrap (20 + (j : Int)) = (q : Int) := by rw [IntWalk.i64_in _ (by omega)]; omega
      have hq40 : q < 40 := by omega
      have hlf : T.lfZ f a2 j = ⟨f j, bj, j, 0, bq == 1⟩ := by unfold T.lfZ; rw [hbj, hbq, hq, beq_int]
      have PU := Lib.hid (fun W hB hW => TPut_c p p most v 0 (T.rowZ f a2 most j) (T.lfZ f a2 j) (T.lfZ_fine hf0 hj20) W hB hW)
      rw [T.row_next] at PU
      rw [hlf] at PU
      unfold vLeaf at PU
      simp only at PU
      clear hH hG hdv hdq hbj hq hbq hlf hsz
      go_wp2_with fail
      refine wp_region_still_tail 18 (by kernel_rfl) (by kernel_rfl) ?_
      simp only [List.take_succ_cons, List.take_zero, List.drop_succ_cons, List.drop_zero]
      change wpStill Try.prog _ wr.drew _ _ _
      repeat still_step
      refine wpStill_nil ?_
      change wpList _ _ _ _ _ (World.drew _)
      go_wp2_with fail
      refine (PU.out _ (by exact Nat.le_of_lt HHH.out.ptr.lt) (drew_held HHH.out)).mono ?_
      rintro e w4 ⟨rfl, hT⟩
      clear u0 hf0
      go_wp2_with fail
      go_roundw
      case rel =>
        obtain ⟨v', hH', -, hb⟩ := hT
        exact ⟨j + 1, v', by go_num, by omega, hH', but_own_grown HGG.out HHH.out hge hb⟩
      case measure => simp [intOf]; omega
    · obtain rfl : j = M := by omega
      have HHH := Lib.hid hH
      have HGG := Lib.hid hG
      have hlen := T.row_length f a2 most j
      have HH2 := Lib.hid (And.intro hH hG)
      have LN := Lib.hid (Len_c p p most v 0 (T.rowZ f a2 most j) wr hH)
      rw [hlen] at LN
      have e3 : min (most : Int) (j : Int) = ((min most j : Nat) : Int) := by omega
      have HLN := Lib.hid hlen
      clear hH hG hlen hlt
      go_wp2_with fail
      refine LN.out.mono ?_
      rintro e w4 ⟨rfl, rfl⟩
      go_wp2_with (refine wpList_bi_eq rfl .min (.tmp 57) (.tmp 58) 3 rfl (fun cs => run_min _ _ _ cs _) ?_; rw [e3])
      clear LN e3 HGG HHH
      go_loopw [12] (fun i wr => ∃ (i' : Nat), i = .int .i64 i' ∧ i' ≤ j ∧ HAt wr p p most v 0 (T.rowZ f a2 most j) ∧ w.grownBy wr none) (fun i _ => j - (intOf i).toNat)
      case atStart => exact ⟨0, rfl, Nat.zero_le _, HH2.out.1, HH2.out.2⟩
      case round =>
        clear HH2
        obtain ⟨i, rfl, hi, hH, hG⟩ := hrel
        by_cases hlt : i < j
        · obtain ⟨ad, rfl, hadb, u0, hf0⟩ := (HN.out.go hG) i (by omega)
          have hi20 : i < 20 := by omega
          have him : i < m1 := by omega
          have hilt : (i : Int) < (j : Int) := by omega
          have hadw : ad.block < wr.heap.size := by have := hG.size; omega
          have HHH := Lib.hid hH
          have HGG := Lib.hid hG
          obtain ⟨bi, hbi⟩ : ∃ b, b = T.bitZ a2 i := ⟨_, rfl⟩
          have hbb := T.bit_bd a2 i
          have FD := Lib.hid (fun W hW => Find_c p p most v 0 (T.rowZ f a2 most j) (f i) bi hf0 (by rw [hbi]; unfold B64; omega) W hW)
          have hr1 : bits .and .u64 (a2 / 2 ^ i) 1 = bi := by rw [T.and_one (div_64 hb0 i), hbi]; rfl
          have hcase := T.find_Z (f := f) (b := a2) (n := most) hlt
          rw [← hbi] at hcase
          have hS0 : wr.cell? (ad.add i) = some (.int .u64 (f i)) ∧ HAt wr p p most v 0 (T.rowZ f a2 most j) ∧ w.grownBy wr none := ⟨u0, hH, hG⟩
          have HBI := Lib.hid hbi
          clear hH hG hbi hbb
          rcases hcase with ⟨hfd, hlow⟩ | ⟨q, hfd, hq1, hq2, hqv, hqb⟩
          · have d1 : decide ((i : Int) ≥ (j : Int) - (most : Int)) = false := by simp; omega
            have HFD := Lib.hid hfd
            clear hfd hlow
            go_upto_region 16 with (fail)
            go_cut [13, 14] from 66 to 78 (fun a13 a14 wc => ∃ qb, a13 = .pointer (some ⟨qb, 0, none⟩) ∧ a14 = .bool false ∧ Row wc qb 52 [.int .u64 0, .int .i64 0, .bool false] ∧ HAt wc p p most v 0 (T.rowZ f a2 most j) ∧ w.grownBy wc none)
            case first =>
              go_wp2_with fail
              clear u0
              go_region_held3 (fun w' => w'.cell? (ad.add i) = some (.int .u64 (f i)) ∧ HAt w' p p most v 0 (T.rowZ f a2 most j) ∧ w.grownBy w' none)
                (first | (with_reducible assumption) | (with_reducible exact on_grown (gr_drew (gr_refl _ none)) (by assumption)) | (with_reducible exact on_grown (gr_alloc (gr_refl _ none) _) hK5) | (with_reducible exact on_grown (gr_alloc (gr_refl _ none) _) (by assumption)) | (with_reducible exact on_three (by assumption) hLr hadb hqw) | (exact on_grown (gr_alloc (gr_refl _ none) _) (by assumption)) | (exact on_grown (by assumption) (by assumption)) | (exact on_three (by assumption) hLr hadb hqw))
                (first | (go_at_call 19; refine (FD.out _ (And.left (And.right (by assumption)))).mono ?_; rw [HFD.out, show vGot (none : Option T.Lf) = .agg #[.int .u64 0, .int .i64 0, .bool false] from rfl, show (none : Option T.Lf).isSome = false from rfl]; rintro e w5 ⟨rfl, hg⟩; have hK5 := on_grown hg (by assumption); first | (have hLr : Row w5 wr.heap.size 52 [.int .u64 0, .int .i64 0, .bool false] := Row.grown (by exact Row.fresh wr.drew 52 [.int .u64 0, .int .i64 0, .bool false]) hg (by simp); have hqw : w.heap.size ≤ wr.heap.size := HGG.out.size; have x0 : w5.cell? ⟨wr.heap.size, 0, none⟩ = some (.int .u64 0) := hLr.cell 0; have x1 : w5.cell? ⟨wr.heap.size, 1, none⟩ = some (.int .i64 0) := hLr.cell 1; have x2 : w5.cell? ⟨wr.heap.size, 2, none⟩ = some (.bool false) := hLr.cell 2; have xf := hLr.free; have xl := hLr.lt) | skip))
              · rename_i hHeld
                have hRow := Row.fresh w5 52 [.int .u64 0, .int .i64 0, .bool false]
                replace hRow : Row (w5.alloc (.cells #[.int .u64 0, .int .i64 0, .bool false] 52)) (w5.heap.size) 52 [.int .u64 0, .int .i64 0, .bool false] := hRow
                obtain ⟨ui, hH5, hG5⟩ := hHeld
                have HC := Lib.hid (And.intro hRow (And.intro hH5 hG5))
                clear hRow hH5 hG5 hK5 hg
                go_wp2_with fail
                go_meet
                case rel => exact ⟨_, rfl, rfl, HC.out⟩
              · rename_i hHeld
                have hRow := put3 hLr (.int .u64 0) (.int .i64 0) (.bool false)
                replace hRow : Row (((w5.setCell ⟨wr.heap.size, 0, none⟩ (.int .u64 0)).setCell ⟨wr.heap.size, 1, none⟩ (.int .i64 0)).setCell ⟨wr.heap.size, 2, none⟩ (.bool false)) (wr.heap.size) 52 [.int .u64 0, .int .i64 0, .bool false] := hRow
                obtain ⟨ui, hH5, hG5⟩ := hHeld
                have HC := Lib.hid (And.intro hRow (And.intro hH5 hG5))
                clear hRow hH5 hG5 hK5 hg hLr hqw x0 x1 x2 xf xl
                go_wp2_with fail
                go_meet
                case rel => exact ⟨_, rfl, rfl, HC.out⟩
            case rest =>
              obtain ⟨qb, rfl, rfl, hRow, hH5, hG5⟩ := hcut
              have z0 : wc.cell? ⟨qb, 0, none⟩ = some (.int .u64 0) := hRow.cell 0
              have z2 : wc.cell? ⟨qb, 2, none⟩ = some (.bool false) := hRow.cell 2
              have zl := hRow.lt
              have H5 := Lib.hid (And.intro hH5 hG5)
              clear hRow hH5 hG5 HHH HGG FD hadw u0
              go_wp2_with fail
              go_quiet (fail)
              go_wp2_with fail
              go_roundw
              case rel => exact ⟨i + 1, by go_num, by omega, T.Held.drewN H5.out.1 _, gr_drewN H5.out.2 _⟩
              case measure => simp [intOf]; omega
          · obtain ⟨gl, hgd⟩ : ∃ g, g = decide (T.bitZ a2 (20 + q) = 1) := ⟨_, rfl⟩
            have hvg : vGot (some (T.lfZ f a2 q)) = .agg #[.int .u64 (q : Int), .int .i64 0, .bool gl] := by rw [hgd]; rfl
            rw [← hgd] at hqb
            obtain ⟨bq, hbq⟩ : ∃ b, b = T.bitZ a2 q := ⟨_, rfl⟩
            have hr3 : bits .and .u64 (a2 / 2 ^ q) 1 = bq := by rw [T.and_one (div_64 hb0 q), hbq]; rfl
            rw [← hbq] at hqb
            have HQB := Lib.hid hqb
            have HQV := Lib.hid hqv
            have HFD := Lib.hid hfd
            have HVG := Lib.hid hvg
            have hq20 : q < 20 := by omega
            clear hfd hqb hqv hvg hgd hbq
            go_upto_region 16 with (fail)
            go_cut [13, 14] from 66 to 78 (fun a13 a14 wc => ∃ qb, a13 = .pointer (some ⟨qb, 0, none⟩) ∧ a14 = .bool true ∧ Row wc qb 52 [.int .u64 (q : Int), .int .i64 0, .bool gl] ∧ HAt wc p p most v 0 (T.rowZ f a2 most j) ∧ w.grownBy wc none)
            case first =>
              go_wp2_with fail
              clear u0
              go_region_held3 (fun w' => w'.cell? (ad.add i) = some (.int .u64 (f i)) ∧ HAt w' p p most v 0 (T.rowZ f a2 most j) ∧ w.grownBy w' none)
                (first | (with_reducible assumption) | (with_reducible exact on_grown (gr_drew (gr_refl _ none)) (by assumption)) | (with_reducible exact on_grown (gr_alloc (gr_refl _ none) _) hK5) | (with_reducible exact on_grown (gr_alloc (gr_refl _ none) _) (by assumption)) | (with_reducible exact on_three (by assumption) hLr hadb hqw) | (exact on_grown (gr_alloc (gr_refl _ none) _) (by assumption)) | (exact on_grown (by assumption) (by assumption)) | (exact on_three (by assumption) hLr hadb hqw))
                (first | (go_at_call 19; refine (FD.out _ (And.left (And.right (by assumption)))).mono ?_; rw [HFD.out, HVG.out, show (some (T.lfZ f a2 q)).isSome = true from rfl]; rintro e w5 ⟨rfl, hg⟩; have hK5 := on_grown hg (by assumption); first | (have hLr : Row w5 wr.heap.size 52 [.int .u64 0, .int .i64 0, .bool false] := Row.grown (by exact Row.fresh wr.drew 52 [.int .u64 0, .int .i64 0, .bool false]) hg (by simp); have hqw : w.heap.size ≤ wr.heap.size := HGG.out.size; have x0 : w5.cell? ⟨wr.heap.size, 0, none⟩ = some (.int .u64 0) := hLr.cell 0; have x1 : w5.cell? ⟨wr.heap.size, 1, none⟩ = some (.int .i64 0) := hLr.cell 1; have x2 : w5.cell? ⟨wr.heap.size, 2, none⟩ = some (.bool false) := hLr.cell 2; have xf := hLr.free; have xl := hLr.lt) | skip))
              · rename_i hHeld
                have hRow := Row.fresh w5 52 [.int .u64 (q : Int), .int .i64 0, .bool gl]
                replace hRow : Row (w5.alloc (.cells #[.int .u64 (q : Int), .int .i64 0, .bool gl] 52)) (w5.heap.size) 52 [.int .u64 (q : Int), .int .i64 0, .bool gl] := hRow
                obtain ⟨ui, hH5, hG5⟩ := hHeld
                have HC := Lib.hid (And.intro hRow (And.intro hH5 hG5))
                clear hRow hH5 hG5 hK5 hg
                go_wp2_with fail
                go_meet
                case rel => exact ⟨_, rfl, rfl, HC.out⟩
              · rename_i hHeld
                have hRow := put3 hLr (.int .u64 (q : Int)) (.int .i64 0) (.bool gl)
                replace hRow : Row (((w5.setCell ⟨wr.heap.size, 0, none⟩ (.int .u64 (q : Int))).setCell ⟨wr.heap.size, 1, none⟩ (.int .i64 0)).setCell ⟨wr.heap.size, 2, none⟩ (.bool gl)) (wr.heap.size) 52 [.int .u64 (q : Int), .int .i64 0, .bool gl] := hRow
                obtain ⟨ui, hH5, hG5⟩ := hHeld
                have HC := Lib.hid (And.intro hRow (And.intro hH5 hG5))
                clear hRow hH5 hG5 hK5 hg hLr hqw x0 x1 x2 xf xl
                go_wp2_with fail
                go_meet
                case rel => exact ⟨_, rfl, rfl, HC.out⟩
            case rest =>
              obtain ⟨qb, rfl, rfl, hRow, hH5, hG5⟩ := hcut
              obtain ⟨ad2, e2, -, uq, hfq⟩ := (HN.out.go hG5) q (by omega)
              injection e2 with e2
              subst e2
              obtain ⟨ad3, e3, -, ui, -⟩ := (HN.out.go hG5) i (by omega)
              injection e3 with e3
              subst e3
              have z0 : wc.cell? ⟨qb, 0, none⟩ = some (.int .u64 (q : Int)) := hRow.cell 0
              have z2 : wc.cell? ⟨qb, 2, none⟩ = some (.bool gl) := hRow.cell 2
              have zl := hRow.lt
              have H5 := Lib.hid (And.intro hH5 hG5)
              have hadW : ad.block < wc.heap.size := Nat.lt_of_lt_of_le hadb hG5.size
              clear hRow hH5 hG5 HHH HGG FD hadw u0
              have hqi := T.and_31 q hq20
              go_upto_region 18 with (fail)
              have d3 : decide ((q : Int) ≥ (j : Int)) = false := by simp; omega
              have d3' : decide (j ≤ q) = false := by simp; omega
              have hwr : IntKind.i64.wrap ((j : Int) - (most : Int)) = (j : Int) - (most : Int) := by rw [IntWalk.i64_in _ (by omega)]
              go_cut [96] from 83 to 96 (fun c w18 => c = .bool false ∧ w18 = wc)
              case first =>
                clear hqi
                by_cases dlow : (i : Int) ≥ (j : Int) - (most : Int)
                · go_wp2_with fail
                  go_meet
                  case rel => exact ⟨rfl, rfl⟩
                · have d1 : decide ((i : Int) ≥ (j : Int) - (most : Int)) = false := by simpa using dlow
                  go_wp2_with fail
                  go_meet
                  case rel => exact ⟨rfl, rfl⟩
              case rest =>
                obtain ⟨rfl, rfl⟩ := hcut
                have hqm : q < m1 := by omega
                have hqmI : (q : Int) < (m1 : Int) := by omega
                have hq0 : (0 : Int) ≤ (q : Int) := by omega
                have d2 : decide ((q : Int) < 0) = false := by simp
                have d4 : decide ((q : Int) < (j : Int) - (most : Int)) = false := by simp; omega
                have d5 : (f q / 4096 != f i / 4096) = false := by rw [HQV.out]; simp
                unfold B64 at hfq hf0
                have DN := Lib.hid (show HAt wc p p most v 0 (T.rowZ f a2 most j) ∧ w.grownBy wc none from H5.out)
                clear H5 hmost hge hM1 hM20 hq1 hq2
                cases gl
                · obtain rfl : bq = bi := HQB.out rfl
                  have d6 : (bq != bq) = false := by simp
                  clear HQB HQV HFD HVG HBI HME HM HLN
                  go_wp2_with fail
                  go_quiet (fail)
                  go_wp2_with fail
                  go_roundw
                  case rel => exact ⟨i + 1, by go_num, by omega, T.Held.drewN DN.out.1 _, gr_drewN DN.out.2 _⟩
                  case measure => simp [intOf]; omega
                · clear HQB HQV HFD HVG HBI HME HM HLN
                  go_wp2_with fail
                  go_quiet (fail)
                  go_wp2_with fail
                  go_roundw
                  case rel => exact ⟨i + 1, by go_num, by omega, T.Held.drewN DN.out.1 _, gr_drewN DN.out.2 _⟩
                  case measure => simp [intOf]; omega
        · obtain rfl : i = j := by omega
          have HBE := Lib.hid (gr_below hG)
          clear hH hG hlt
          go_wp2_with fail
          go_ret
          exact ⟨rfl, HBE.out⟩

theorem own : ownKnob Try.prog.godebug = none := by kernel_rfl
theorem laidOut : laidOutB Try.prog = true := by kernel_rfl

set_option maxRecDepth 100000 in
theorem lifted (os : Os) (started : os.Started) (H : Type) (enc : TypeId × Value → H) :
    ReturnsInHanded {} Try.checked os 6 .any (Rows.tlbOrderSpec.pre6 enc Try.prog Try.f6 Rows.tlbOrderRow.domain false) (Rows.tlbOrderSpec.post enc Try.prog Try.f6 false true false false) := by
  refine returnsInHanded_of_change (C := Try.checked) own started (by kernel_rfl) Try.func6
    (ChangeSpec.witness6 (enc := enc) (C := Try.checked) false ⟨#[], #[.int .i64 0, .slice none 0 0, .int .u64 0], []⟩ 8 (by kernel_rfl) (by kernel_rfl) (by kernel_rfl) (by kernel_rfl)) ?_
  intro W base args ds gs before hval0 hW hcnd _
  have hval : ∀ (j : Nat) t v, Try.f6.params[j]? = some t → args[j]? = some v → Value.okWide Try.prog W .any base t v := hval0
  have hW' := hW
  obtain ⟨p, q, hA0, hV, rfl, hfz, hnd⟩ := hW
  have hA : DataW.TrodAll enc Try.prog W 0 (fun _ => true) true Try.f6.params.toList args.toList ds p := hA0
  rw [Try.params6] at hA hval
  obtain ⟨v0, vs0, d0, ds0, p0, q0, hargs, rfl, rfl, h0, r0⟩ := trodAll_cons hA
  obtain ⟨v1, vs1, d1, ds1, p1, q1, rfl, rfl, rfl, h1, r1⟩ := trodAll_cons r0
  obtain ⟨v2, vs2, d2, ds2, p2, q2, rfl, rfl, rfl, h2, r2⟩ := trodAll_cons r1
  obtain ⟨rfl, rfl, rfl⟩ := trodAll_nil r2
  obtain rfl : args = #[v0, v1, v2] := by cases args; simp_all
  obtain ⟨rfl, rfl⟩ := trodVars_none hV
  clear hA0 hval0 hA
  have k0 := h0
  have lt0 : ∀ x ∈ p0, x.block < W.heap.size := by obtain ⟨m, hm⟩ := k0; exact DataW.trod_lt m _ _ _ hm
  obtain ⟨a0, rfl, rfl, rfl, w0⟩ := open_int Try.underlying3 (hval 0 3 v0 rfl rfl) h0
  have k1 := h1
  have lt1 : ∀ x ∈ p1, x.block < W.heap.size := by obtain ⟨m, hm⟩ := k1; exact DataW.trod_lt m _ _ _ hm
  obtain ⟨A1, m1, c1, rfl, mc1, cc1, raw1⟩ := Op.open_rows (K := 1) Try.underlying63 (by kernel_rfl) (by decide) (hval 1 63 v1 rfl rfl) h1
  have el1 : ∀ i, i < m1 → ∃ ad, A1 = some ad ∧ ad.block < W.heap.size ∧ ∃ (x0 : Int), (W.cell? (ad.add (i * 1 + 0)) = some (.int .u64 x0) ∧ (Lit.int .u64 x0).wf = true) := by
    intro i hi
    obtain ⟨ad, hA, hb, mm, cs, yy, hl, hcl, ht⟩ := raw1 i hi
    obtain _ | ⟨c_0, cs⟩ := cs
    · simp at hl
    obtain _ | ⟨_, _⟩ := cs
    rotate_left
    · simp at hl
    have hc_0 := hcl 0 (by decide)
    clear hcl
    simp only [List.getElem?_cons_zero, List.getElem?_cons_succ] at hc_0
    obtain ⟨x0, ee0, _, ww0⟩ := DataW.trod_int Try.underlying22 ht
    simp at ee0; subst ee0
    exact ⟨ad, hA, hb, x0, ⟨hc_0, ww0⟩⟩
  have k2 := h2
  have lt2 : ∀ x ∈ p2, x.block < W.heap.size := by obtain ⟨m, hm⟩ := k2; exact DataW.trod_lt m _ _ _ hm
  obtain ⟨a2, rfl, rfl, rfl, w2⟩ := open_int Try.underlying22 (hval 2 22 v2 rfl rfl) h2
  refine (walk W a0 w0 A1 m1 c1 mc1 cc1 el1 a2 w2).mono fun e W' ⟨he, bel⟩ => ?_
  subst he
  exact ⟨_, rfl, _, _, _, [], _, [], hW', trodAll_mk1 (shut_bool Try.underlying4 _), (trodAll_cons_mk (Below.trod laidOut (by kernel_rfl) (of_decide_eq_true (by kernel_rfl)) k0 bel lt0) (trodAll_cons_mk (Below.trod laidOut (by kernel_rfl) (of_decide_eq_true (by kernel_rfl)) k1 bel lt1) (trodAll_cons_mk (Below.trod laidOut (by kernel_rfl) (of_decide_eq_true (by kernel_rfl)) k2 bel lt2) trodAll_mk0))), rfl, bel.frame _, fun h => by cases h⟩

theorem over : Rows.tlbOrderRow.holds Try.pinned (OpenSpec.ofChange Rows.tlbOrderSpec) :=
  OpenClaim.holds_of_wide 6 Try.f6 rfl rfl rfl rfl rfl rfl rfl ⟨rfl, rfl, rfl, rfl, rfl⟩ rfl rfl rfl rfl rfl (by kernel_rfl) Try.func6 (by kernel_rfl)
    (of_decide_eq_true (by kernel_rfl)) (by unfold Func.isWrapper; first | (rw [if_pos (by decide +kernel)]; kernel_rfl) | (rw [if_neg (by decide +kernel)]; exact ⟨rfl, rfl⟩))
    (fun os started H enc _ => lifted os started H enc)

/-- The statement. -/
theorem proved : Rows.TlbOrderSaid := over
#print axioms proved

end Go.Proofs.Ytkfmcbhoendocaa.tlbOrder
