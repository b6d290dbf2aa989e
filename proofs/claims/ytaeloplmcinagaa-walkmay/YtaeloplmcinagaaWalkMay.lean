/-
  Proved: for any memory and any access, the law WalkMay returns true: where there is no fault the entry lets what is done, and the address is within its page; a fault is of the kind and address that were asked for; without a table there is none; and nothing is written.
  Conditions: none beyond the statement's own.
-/
import Derived.Test.YtaeloplmcinagaaRows
import Derived.Test.YtaeloplmcinagaaOpen
import Derived.Test.YtaeloplmcinagaaOpenT
import Derived.Lib.Hide
import Derived.Deep.Cut
import Derived.Test.YtaeloplmcinagaaWalkL
import Derived.Test.YtaeloplmcinagaaWalkN
import Derived.Test.YtaeloplmcinagaaWalkQ
import Derived.Test.YtaeloplmcinagaaRamLaw
import Derived.Test.YtaeloplmcinagaaPteR2
import Derived.Deep.QuietTactic
import Derived.BigQuiet
namespace Go.Proofs.Ytaeloplmcinagaa.walkMay
open Go Go.ChangeShapes Go.WideShapes Go.ChangeAt Go.RowKit W M D A C P K
set_option linter.unusedVariables false

theorem quietly {P : Program} {f : FuncId} {args : Array Value} {W : World} {v : Value} {Q : World → Prop}
    (h : Calls P f args W fun e w' => e = .returned v ∧ W = w') (hQ : Q W) : Calls P f args W fun e w'' => e = .returned v ∧ Q w'' :=
  h.mono fun _ _ ⟨he, hw⟩ => ⟨he, hw ▸ hQ⟩
set_option maxRecDepth 100000 in
set_option maxHeartbeats 16000000 in
theorem walk (w : World) (a0_0 : Int) (w0_0 : (Lit.int .u8 a0_0).wf = true) (A0_1 : Option Addr) (n0_1 k0_1 : Nat) (mc0_1 : n0_1 ≤ k0_1) (cc0_1 : k0_1 ≤ 9223372036854775807) (el0_1 : ∀ i, i < n0_1 → ∃ ad, A0_1 = some ad ∧ ad.block < w.heap.size ∧ ∃ (x0 : Int) (x1 : Int), (w.cell? (ad.add (i * 2 + 0)) = some (.int .u32 x0) ∧ (Lit.int .u32 x0).wf = true) ∧ (w.cell? (ad.add (i * 2 + 1)) = some (.int .u64 x1) ∧ (Lit.int .u64 x1).wf = true)) (a1_0 : Int) (w1_0 : (Lit.int .u64 a1_0).wf = true) (a1_1 : Int) (w1_1 : (Lit.int .u64 a1_1).wf = true) (a1_2 : Int) (w1_2 : (Lit.int .u64 a1_2).wf = true) (a1_3 : Int) (w1_3 : (Lit.int .u64 a1_3).wf = true) (a1_4 : Int) (w1_4 : (Lit.int .u64 a1_4).wf = true) (a1_5 : Int) (w1_5 : (Lit.int .u64 a1_5).wf = true) (a1_6 : Int) (w1_6 : (Lit.int .u64 a1_6).wf = true) (a1_7 : Int) (w1_7 : (Lit.int .u64 a1_7).wf = true) (a1_8 : Int) (w1_8 : (Lit.int .u64 a1_8).wf = true) (a1_9 : Int) (w1_9 : (Lit.int .u64 a1_9).wf = true) (a1_10 : Int) (w1_10 : (Lit.int .u64 a1_10).wf = true) (a1_11 : Int) (w1_11 : (Lit.int .u64 a1_11).wf = true) (a1_12 : Int) (w1_12 : (Lit.int .i64 a1_12).wf = true) (a1_13 : Int) (w1_13 : (Lit.int .i64 a1_13).wf = true) (a1_14 : Int) (w1_14 : (Lit.int .u64 a1_14).wf = true) :
    Calls Try.prog 4 #[.agg #[.int .u8 a0_0, .slice A0_1 n0_1 k0_1], .agg #[.int .u64 a1_0, .int .u64 a1_1, .int .u64 a1_2, .int .u64 a1_3, .int .u64 a1_4, .int .u64 a1_5, .int .u64 a1_6, .int .u64 a1_7, .int .u64 a1_8, .int .u64 a1_9, .int .u64 a1_10, .int .u64 a1_11, .int .i64 a1_12, .int .i64 a1_13, .int .u64 a1_14]] w fun e w' => e = .returned (.bool true) ∧ Below w.heap.size w w' := by
  have ha : 0 ≤ a0_0 ∧ a0_0 ≤ 255 := bounds_u8 w0_0
  have h0 : B64 a1_0 := bounds_u64 w1_0
  have h1 : B64 a1_1 := bounds_u64 w1_1
  have h2 : B64 a1_2 := bounds_u64 w1_2
  have h3 : B64 a1_3 := bounds_u64 w1_3
  have h4 : B64 a1_4 := bounds_u64 w1_4
  have h5 : B64 a1_5 := bounds_u64 w1_5
  have h6 : B64 a1_6 := bounds_u64 w1_6
  have h7 : B64 a1_7 := bounds_u64 w1_7
  have h8 : B64 a1_8 := bounds_u64 w1_8
  have h9 : B64 a1_9 := bounds_u64 w1_9
  have h10 : B64 a1_10 := bounds_u64 w1_10
  have h11 : B64 a1_11 := bounds_u64 w1_11
  have hp : I64 a1_12 := bounds_i64 w1_12
  have hk : I64 a1_13 := bounds_i64 w1_13
  have hv : B64 a1_14 := bounds_u64 w1_14
  have hc : C.Good [a1_0, a1_1, a1_2, a1_3, a1_4, a1_5, a1_6, a1_7, a1_8, a1_9, a1_10, a1_11] := good12 h0 h1 h2 h3 h4 h5 h6 h7 h8 h9 h10 h11
  have HH0 := Lib.hid h0
  have HH9 := Lib.hid h9
  obtain ⟨f, h, hE⟩ := elems_of el0_1
  obtain ⟨bs, hbs⟩ : ∃ bs, bs = fillV f h (min n0_1 64) (List.replicate ((1 + a0_0 % 16).toNat * 4096) 0) := ⟨_, rfl⟩
  have BT := Lib.hid (fun W hW => both_c a0_0 ha A0_1 n0_1 k0_1 mc0_1 cc0_1 f h W hW)
  rw [← hbs] at BT
  have HE := Lib.hid hE
  clear w0_0 w1_0 w1_1 w1_2 w1_3 w1_4 w1_5 w1_6 w1_7 w1_8 w1_9 w1_10 w1_11 w1_12 w1_13 w1_14 el0_1 hE h0 h1 h2 h3 h4 h5 h6 h7 h8 h9 h10 h11
  have hbb : Byt bs := by
    rw [hbs]
    have key : ∀ k, Byt (fillV f h k (List.replicate ((1 + a0_0 % 16).toNat * 4096) 0)) := by
      intro k
      induction k with
      | zero => intro b hb; rw [List.eq_of_mem_replicate (show b ∈ List.replicate _ (0 : Int) from hb)]; omega
      | succ k ih => exact putV_byt ih _ _ _
    exact key _
  obtain ⟨R, hR⟩ : ∃ R, R = walkV bs (gC [a1_0, a1_1, a1_2, a1_3, a1_4, a1_5, a1_6, a1_7, a1_8, a1_9, a1_10, a1_11] 9) (gC [a1_0, a1_1, a1_2, a1_3, a1_4, a1_5, a1_6, a1_7, a1_8, a1_9, a1_10, a1_11] 0) a1_12 a1_13 a1_14 := ⟨_, rfl⟩
  obtain ⟨x, hx⟩ : ∃ x, x = toV bs (gC [a1_0, a1_1, a1_2, a1_3, a1_4, a1_5, a1_6, a1_7, a1_8, a1_9, a1_10, a1_11] 9) (gC [a1_0, a1_1, a1_2, a1_3, a1_4, a1_5, a1_6, a1_7, a1_8, a1_9, a1_10, a1_11] 0) a1_12 a1_13 a1_14 := ⟨_, rfl⟩
  have T2 := Lib.hid (fun (p g : Nat) W hW => to_at (p := p) (g := g) hc hp hk hv hR hx W hW)
  have WK := Lib.hid (show ∀ (p g : Nat) (W : World), RAt W p g bs → Calls Try.prog 10 #[.pointer (some ⟨p, 0, none⟩), vC [a1_0, a1_1, a1_2, a1_3, a1_4, a1_5, a1_6, a1_7, a1_8, a1_9, a1_10, a1_11], .int .i64 a1_12, .int .i64 a1_13, .int .u64 a1_14] W fun e w' => e = .returned (.tuple #[.agg #[.int .u64 R.pte, .int .i64 R.lvl, .bool R.glob], .agg #[.bool R.isf, .int .i64 R.cause, .int .u64 R.val]]) ∧ W.grownBy w' none from fun p g W hW => by rw [hR]; exact Walk_c p g bs [a1_0, a1_1, a1_2, a1_3, a1_4, a1_5, a1_6, a1_7, a1_8, a1_9, a1_10, a1_11] hc a1_12 a1_13 a1_14 hp hk hv W hW)
  have PG := Lib.hid (fun W => Paged_c [a1_0, a1_1, a1_2, a1_3, a1_4, a1_5, a1_6, a1_7, a1_8, a1_9, a1_10, a1_11] hc W)
  have PF := Lib.hid (fun W => PageFault_c a1_13 a1_14 hk W)
  have NA := Lib.hid (fun W => NoAddress_c a1_13 a1_14 hk W)
  unfold vFault at PF NA
  have MF := Lib.hid (show R.isf = true → pagedV a1_9 = true ∧ x = 0 ∧ (R.cause = pfC a1_13 ∨ R.cause = naC a1_13) ∧ R.val = a1_14 from fun hf => by
    rw [hR] at hf
    have h1 := walk_paged hf
    have h2 := walk_of _ _ _ _ _ _ hf
    refine ⟨h1, ?_, ?_, ?_⟩
    · rw [hx]; unfold toV; rw [if_pos h1, if_pos hf]
    · rw [hR]; exact h2.1
    · rw [hR]; exact h2.2)
  have MN := Lib.hid (show pagedV a1_9 = false → x = a1_14 ∧ R.pte = 0 from fun hf => by
    have hf' : ¬ pagedV (gC [a1_0, a1_1, a1_2, a1_3, a1_4, a1_5, a1_6, a1_7, a1_8, a1_9, a1_10, a1_11] 9) = true := by rw [show pagedV (gC [a1_0, a1_1, a1_2, a1_3, a1_4, a1_5, a1_6, a1_7, a1_8, a1_9, a1_10, a1_11] 9) = false from hf]; simp
    refine ⟨?_, ?_⟩
    · rw [hx]; unfold toV; rw [if_neg hf']
    · rw [hR]; unfold walkV; rw [if_neg hf']; rfl)
  have MP := Lib.hid (show R.isf = false → pagedV a1_9 = true → mayV R.pte a1_13 a1_12 a1_0 = true ∧ (0 ≤ R.lvl ∧ R.lvl ≤ 2) ∧ x = pageV R.pte * 4096 + a1_14 % szV R.lvl ∧ pageV R.pte * 4096 % szV R.lvl = 0 from fun hf hpg => by
    have hft := fits_walk hbb (sa := gC [a1_0, a1_1, a1_2, a1_3, a1_4, a1_5, a1_6, a1_7, a1_8, a1_9, a1_10, a1_11] 9) (st := gC [a1_0, a1_1, a1_2, a1_3, a1_4, a1_5, a1_6, a1_7, a1_8, a1_9, a1_10, a1_11] 0) (priv := a1_12) (kind := a1_13) hv
    rw [← hR] at hft
    have hm := walk_may (bs := bs) (sa := gC [a1_0, a1_1, a1_2, a1_3, a1_4, a1_5, a1_6, a1_7, a1_8, a1_9, a1_10, a1_11] 9) (va := a1_14) (k := a1_13) (p := a1_12) (s := gC [a1_0, a1_1, a1_2, a1_3, a1_4, a1_5, a1_6, a1_7, a1_8, a1_9, a1_10, a1_11] 0) hpg (by rw [← hR]; exact hf)
    rw [← hR] at hm
    refine ⟨hm.1, ⟨hft.2.1, hft.2.2.1⟩, ?_, ?_⟩
    · rw [hx]; unfold toV; rw [if_pos (show pagedV (gC [a1_0, a1_1, a1_2, a1_3, a1_4, a1_5, a1_6, a1_7, a1_8, a1_9, a1_10, a1_11] 9) = true from hpg), ← hR, hf, if_neg (by simp), at_aligned ⟨hft.2.1, hft.2.2.1⟩ hm.2]
    · have := hm.2
      unfold alignedV at this
      simp only [Bool.and_eq_true, decide_eq_true_eq] at this
      exact this.2)
  have hpt := (fits_walk hbb (sa := gC [a1_0, a1_1, a1_2, a1_3, a1_4, a1_5, a1_6, a1_7, a1_8, a1_9, a1_10, a1_11] 9) (st := gC [a1_0, a1_1, a1_2, a1_3, a1_4, a1_5, a1_6, a1_7, a1_8, a1_9, a1_10, a1_11] 0) (priv := a1_12) (kind := a1_13) hv).1
  rw [← hR] at hpt
  have MY := Lib.hid (fun W => rMay_c R.pte a1_13 a1_12 a1_0 hpt hk hp HH0.out W)
  have RP := Lib.hid (fun W => rPage_c R.pte hpt W)
  have hpgb := page_bd hpt
  have h0 := HH0.out
  rw [show vC [a1_0, a1_1, a1_2, a1_3, a1_4, a1_5, a1_6, a1_7, a1_8, a1_9, a1_10, a1_11] = .agg #[.int .u64 a1_0, .int .u64 a1_1, .int .u64 a1_2, .int .u64 a1_3, .int .u64 a1_4, .int .u64 a1_5, .int .u64 a1_6, .int .u64 a1_7, .int .u64 a1_8, .int .u64 a1_9, .int .u64 a1_10, .int .u64 a1_11] from rfl] at T2 WK PG
  replace PG : Hid (∀ W : World, Calls Try.prog 18 #[.agg #[.int .u64 a1_0, .int .u64 a1_1, .int .u64 a1_2, .int .u64 a1_3, .int .u64 a1_4, .int .u64 a1_5, .int .u64 a1_6, .int .u64 a1_7, .int .u64 a1_8, .int .u64 a1_9, .int .u64 a1_10, .int .u64 a1_11]] W fun e w' => e = .returned (.bool (pagedV a1_9)) ∧ W.grownBy w' none) := PG
  unfold B64 at h0 hpt
  clear hc hR hx hbs
  have HR0 := Lib.hid ((Row.fresh w 24 [.int .u8 a0_0, .slice A0_1 n0_1 k0_1]).alloc (.cells #[.int .u64 a1_0, .int .u64 a1_1, .int .u64 a1_2, .int .u64 a1_3, .int .u64 a1_4, .int .u64 a1_5, .int .u64 a1_6, .int .u64 a1_7, .int .u64 a1_8, .int .u64 a1_9, .int .u64 a1_10, .int .u64 a1_11, .int .i64 a1_12, .int .i64 a1_13, .int .u64 a1_14] 29))
  have HT0 := Lib.hid (Row.fresh (w.alloc (.cells #[.int .u8 a0_0, .slice A0_1 n0_1 k0_1] 24)) 29 [.int .u64 a1_0, .int .u64 a1_1, .int .u64 a1_2, .int .u64 a1_3, .int .u64 a1_4, .int .u64 a1_5, .int .u64 a1_6, .int .u64 a1_7, .int .u64 a1_8, .int .u64 a1_9, .int .u64 a1_10, .int .u64 a1_11, .int .i64 a1_12, .int .i64 a1_13, .int .u64 a1_14])
  rw [show (w.alloc (.cells #[.int .u8 a0_0, .slice A0_1 n0_1 k0_1] 24)).heap.size = w.heap.size + 1 from Array.size_push ..] at HT0
  have HG0 := Lib.hid (gr_alloc (gr_alloc (gr_refl w none) (.cells #[.int .u8 a0_0, .slice A0_1 n0_1 k0_1] 24)) (.cells #[.int .u64 a1_0, .int .u64 a1_1, .int .u64 a1_2, .int .u64 a1_3, .int .u64 a1_4, .int .u64 a1_5, .int .u64 a1_6, .int .u64 a1_7, .int .u64 a1_8, .int .u64 a1_9, .int .u64 a1_10, .int .u64 a1_11, .int .i64 a1_12, .int .i64 a1_13, .int .u64 a1_14] 29))
  unfold I64 at hp hk
  unfold B64 at hv
  go_enter Try.func4, Try.ntmps4
  go_wp2_with fail
  generalize (w.alloc (.cells #[.int .u8 a0_0, .slice A0_1 n0_1 k0_1] 24)).alloc (.cells #[.int .u64 a1_0, .int .u64 a1_1, .int .u64 a1_2, .int .u64 a1_3, .int .u64 a1_4, .int .u64 a1_5, .int .u64 a1_6, .int .u64 a1_7, .int .u64 a1_8, .int .u64 a1_9, .int .u64 a1_10, .int .u64 a1_11, .int .i64 a1_12, .int .i64 a1_13, .int .u64 a1_14] 29) = V at *
  refine (shown11_c _).mono ?_
  rintro e w1 ⟨rfl, hG⟩
  have hR1 := HR0.out.grown hG (by simp)
  have hT1 := HT0.out.grown hG (by simp)
  have hG1 := gr_trans HG0.out hG
  have hE1 := (HE.out.turn (w' := w1) (fun ad had => cell_grown hG1 had (by simp))).more hG1.size
  clear HR0 HT0 HG0 HE hG
  obtain ⟨b, hb⟩ : ∃ b, b = w.heap.size := ⟨_, rfl⟩
  rw [← hb] at hR1 hT1 ⊢
  have HB := Lib.hid hb
  clear hb
  have m0 : w1.cell? ⟨b, 0, none⟩ = some (.int .u8 a0_0) := hR1.cell 0
  have m1 : w1.cell? ⟨b, 1, none⟩ = some (.slice A0_1 n0_1 k0_1) := hR1.cell 1
  have lt := hR1.lt
  clear hR1
  go_wp2_with fail
  refine (BT.out _ hE1).mono ?_
  rintro e w2 ⟨p, g, p', g', rfl, hA, hQ, hG⟩
  have hL : Lw w (b + 1) p g p' g' bs [.int .u64 a1_0, .int .u64 a1_1, .int .u64 a1_2, .int .u64 a1_3, .int .u64 a1_4, .int .u64 a1_5, .int .u64 a1_6, .int .u64 a1_7, .int .u64 a1_8, .int .u64 a1_9, .int .u64 a1_10, .int .u64 a1_11, .int .i64 a1_12, .int .i64 a1_13, .int .u64 a1_14] w2 := ⟨hT1.grown hG (by simp), hA, hQ, gr_trans hG1 hG⟩
  clear hT1 hA hQ hG hG1 hE1 m0 m1 lt BT
  generalize b + 1 = t at *
  obtain ⟨k0, k1, k2, k3, k4, k5, k6, k7, k8, k9, k10, k11, k12, k13, k14⟩ := cells15 hL.tr
  have lt := hL.tr.lt
  have HL := Lib.hid hL
  clear hL
  go_wp2_with fail
  refine (WK.out _ _ _ HL.out.one).mono ?_
  rintro e u1 ⟨rfl, hG⟩
  have hG' := gr_alloc (gr_alloc hG (.cells #[.int .u64 R.pte, .int .i64 R.lvl, .bool R.glob] 36)) (.cells #[.bool R.isf, .int .i64 R.cause, .int .u64 R.val] 38)
  have hL1 := HL.out.keep hG'
  have q0r := (new3 u1 36 (.int .u64 R.pte) (.int .i64 R.lvl) (.bool R.glob)).alloc (.cells #[.bool R.isf, .int .i64 R.cause, .int .u64 R.val] 38)
  have q1r := new3 (u1.alloc (.cells #[.int .u64 R.pte, .int .i64 R.lvl, .bool R.glob] 36)) 38 (.bool R.isf) (.int .i64 R.cause) (.int .u64 R.val)
  rw [show (u1.alloc (.cells #[.int .u64 R.pte, .int .i64 R.lvl, .bool R.glob] 36)).heap.size = u1.heap.size + 1 from Array.size_push ..] at q1r
  clear hG hG' HL lt k0 k1 k2 k3 k4 k5 k6 k7 k8 k9 k10 k11 k12 k13 k14
  go_upto_region 6 with (fail)
  generalize (u1.alloc (.cells #[.int .u64 R.pte, .int .i64 R.lvl, .bool R.glob] 36)).alloc (.cells #[.bool R.isf, .int .i64 R.cause, .int .u64 R.val] 38) = U1 at *
  generalize u1.heap.size = q0 at *
  obtain ⟨k0, k1, k2, k3, k4, k5, k6, k7, k8, k9, k10, k11, k12, k13, k14⟩ := cells15 hL1.tr
  have lt := hL1.tr.lt
  have HL := Lib.hid hL1
  clear hL1
  go_wp2_with fail
  refine (T2.out _ _ _ HL.out.one).mono ?_
  rintro e u2 ⟨rfl, hG⟩
  have hG' := gr_alloc hG (.cells #[.bool R.isf, .int .i64 R.cause, .int .u64 R.val] 38)
  have hL2 := HL.out.keep hG'
  have q2r := new3 u2 38 (.bool R.isf) (.int .i64 R.cause) (.int .u64 R.val)
  replace q0r := q0r.grown hG' (by simp)
  replace q1r := q1r.grown hG' (by simp)
  clear hG hG' HL lt k0 k1 k2 k3 k4 k5 k6 k7 k8 k9 k10 k11 k12 k13 k14
  go_upto_region 7 with (fail)
  generalize u2.alloc (.cells #[.bool R.isf, .int .i64 R.cause, .int .u64 R.val] 38) = U2 at *
  generalize u2.heap.size = q2 at *
  have hB := hL2.two.head
  have hBl := hL2.two.ptr.lt
  have hlen := hL2.one.len
  have HL2 := Lib.hid hL2
  clear hL2
  go_wp2_with fail
  refine (Bytes_yes _ _ bs _ _ _ HL2.out.one (by omega) (has_all _)).mono ?_
  rw [part_all]
  rintro e u3 ⟨rfl, hRB, hG⟩
  have hL3 := HL2.out.keep hG
  replace q0r := q0r.grown hG (by simp)
  replace q1r := q1r.grown hG (by simp)
  replace q2r := q2r.grown hG (by simp)
  clear hG HL2 hB hBl
  generalize U2.heap.size = qb at *
  have hB := hL3.two.head
  have hBl := hL3.two.ptr.lt
  have hT1 : ∀ d, (convert 48 9 (.slice (some ⟨qb, 0, none⟩) bs.length bs.length)).run Try.prog (u3.drewN d) = .ok (.string (strOfNums bs)) (u3.drewN d) := by
    intro d
    have hsh : Shows (u3.drewN d) _ _ _ _ := hRB.shows hbb
    exact hsh.text (P := Try.prog) 48 5 9 _ Try.underlying48 Try.underlying5 Try.underlying9
  have hT2 : ∀ d, (convert 48 9 (.slice (some ⟨g', 0, none⟩) bs.length bs.length)).run Try.prog (u3.drewN d) = .ok (.string (strOfNums bs)) (u3.drewN d) := by
    intro d
    have hsh : Shows (u3.drewN d) _ _ _ _ := hL3.two.row.shows hbb
    exact hsh.text (P := Try.prog) 48 5 9 _ Try.underlying48 Try.underlying5 Try.underlying9
  have hNE := fun W => neq_Fs R.isf R.cause R.val W
  obtain ⟨i1, j1, v1⟩ := cells3 q1r
  obtain ⟨i2, j2, v2⟩ := cells3 q2r
  have l1 := q1r.lt
  have l2 := q2r.lt
  have HL3 := Lib.hid hL3
  have Q0 := Lib.hid q0r
  have Q1 := Lib.hid q1r
  clear hL3 q0r q1r q2r hRB
  generalize strOfNums bs = txt at *
  generalize bs.length = len at *
  go_wp2_with fail
  go_quiet (fail)
  have hg3 := gr_drewN (gr_refl u3 none) nq
  have hL3 := HL3.out.keep hg3
  have q0r := Q0.out.grown hg3 (by simp)
  have q1r := Q1.out.grown hg3 (by simp)
  clear HL3 Q0 Q1 i1 j1 v1 i2 j2 v2 l1 l2 hT1 hT2 hNE hB hBl hg3
  generalize u3.drewN nq = u4 at *
  obtain ⟨i1, j1, v1⟩ := cells3 q1r
  have l1 := q1r.lt
  obtain ⟨pt, lv, gb, isf, ca, vl⟩ := R
  simp only at MF MN MP MY RP hpt hpgb i1 j1 v1 q0r q1r T2 WK
  clear T2 WK
  cases isf
  · have mn := MN.out
    have mp := MP.out rfl
    clear MN MP MF PF NA
    obtain ⟨k0, k1, k2, k3, k4, k5, k6, k7, k8, k9, k10, k11, k12, k13, k14⟩ := cells15 hL3.tr
    have lt := hL3.tr.lt
    have HL := Lib.hid hL3
    clear hL3
    go_wp2_with fail
    refine (PG.out _).mono ?_
    rintro e u5 ⟨rfl, hG⟩
    have hL5 := HL.out.keep hG
    replace q0r := q0r.grown hG (by simp)
    clear hG HL lt k0 k1 k2 k3 k4 k5 k6 k7 k8 k9 k10 k11 k12 k13 k14 i1 j1 v1 l1 q1r
    obtain ⟨l0, la, lb⟩ := cells3 q0r
    have l1 := q0r.lt
    obtain ⟨k0, k1, k2, k3, k4, k5, k6, k7, k8, k9, k10, k11, k12, k13, k14⟩ := cells15 hL5.tr
    have lt := hL5.tr.lt
    have HGR := Lib.hid (gr_below hL5.gr)
    clear hL5 q0r
    cases hpg : pagedV a1_9
    · obtain ⟨rfl, rfl⟩ := mn hpg
      clear mn mp hpg MY RP
      go_wp2_with fail
      go_ret
      exact ⟨rfl, HGR.out⟩
    · obtain ⟨m1, m2, m3, m4⟩ := mp hpg
      rw [m1] at MY
      have M3 := Lib.hid m3
      have M4 := Lib.hid m4
      clear mn mp hpg m1 m3 m4
      generalize pageV pt = pgx at *
      go_wp2_with fail
      refine (MY.out _).mono ?_
      rintro e w' ⟨rfl, rfl⟩
      rcases (show lv = 0 ∨ lv = 1 ∨ lv = 2 by omega) with rfl | rfl | rfl
      · have m3 := M3.out
        have m4 := M4.out
        rw [show szV 0 = 4096 from rfl] at m3 m4
        have e1 : x % 4096 = a1_14 % 4096 := by omega
        have e2 : pgx ≤ x / 4096 := by omega
        have e3 : x - pgx * 4096 < 4096 := by omega
        have e4 : 0 ≤ x - pgx * 4096 := by omega
        have e5 : 0 ≤ x ∧ x ≤ 18446744073709551615 := by omega
        clear m3 m4
        go_wp2_with fail
        go_quiet ((go_at_call 22; exact quietly (RP.out _) ⟨_, rfl⟩))
        go_wp2_with fail
        go_ret
        exact ⟨rfl, below_drewN HGR.out _⟩
      · have m3 := M3.out
        have m4 := M4.out
        rw [show szV 1 = 2097152 from rfl] at m3 m4
        have e1 : x % 2097152 = a1_14 % 2097152 := by omega
        have e2 : pgx ≤ x / 4096 := by omega
        have e3 : x - pgx * 4096 < 2097152 := by omega
        have e4 : 0 ≤ x - pgx * 4096 := by omega
        have e5 : 0 ≤ x ∧ x ≤ 18446744073709551615 := by omega
        clear m3 m4
        go_wp2_with fail
        go_quiet ((go_at_call 22; exact quietly (RP.out _) ⟨_, rfl⟩))
        go_wp2_with fail
        go_ret
        exact ⟨rfl, below_drewN HGR.out _⟩
      · have m3 := M3.out
        have m4 := M4.out
        rw [show szV 2 = 1073741824 from rfl] at m3 m4
        have e1 : x % 1073741824 = a1_14 % 1073741824 := by omega
        have e2 : pgx ≤ x / 4096 := by omega
        have e3 : x - pgx * 4096 < 1073741824 := by omega
        have e4 : 0 ≤ x - pgx * 4096 := by omega
        have e5 : 0 ≤ x ∧ x ≤ 18446744073709551615 := by omega
        clear m3 m4
        go_wp2_with fail
        go_quiet ((go_at_call 22; exact quietly (RP.out _) ⟨_, rfl⟩))
        go_wp2_with fail
        go_ret
        exact ⟨rfl, below_drewN HGR.out _⟩
  · obtain ⟨m1, m2, m3, m4⟩ := MF.out rfl
    subst m2
    replace m4 := m4.symm
    subst m4
    clear MN MP MF MY RP
    obtain ⟨k0, k1, k2, k3, k4, k5, k6, k7, k8, k9, k10, k11, k12, k13, k14⟩ := cells15 hL3.tr
    have lt := hL3.tr.lt
    have HL := Lib.hid hL3
    clear hL3
    rw [m1] at PG
    go_wp2_with fail
    refine (PF.out _).mono ?_
    rintro e u5 ⟨rfl, hG⟩
    have hG' := gr_alloc hG (.cells #[.bool true, .int .i64 (pfC a1_13), .int .u64 a1_14] 38)
    have hL5 := HL.out.keep hG'
    replace q1r := q1r.grown hG' (by simp)
    have qpr := new3 u5 38 (.bool true) (.int .i64 (pfC a1_13)) (.int .u64 a1_14)
    clear hG hG' HL lt k0 k1 k2 k3 k4 k5 k6 k7 k8 k9 k10 k11 k12 k13 k14 i1 j1 v1 l1 q0r
    go_upto_region 12 with (fail)
    generalize u5.alloc (.cells #[.bool true, .int .i64 (pfC a1_13), .int .u64 a1_14] 38) = U5 at *
    generalize u5.heap.size = qp at *
    obtain ⟨k0, k1, k2, k3, k4, k5, k6, k7, k8, k9, k10, k11, k12, k13, k14⟩ := cells15 hL5.tr
    have lt := hL5.tr.lt
    have HL := Lib.hid hL5
    clear hL5
    go_wp2_with fail
    refine (NA.out _).mono ?_
    rintro e u6 ⟨rfl, hG⟩
    have hG' := gr_alloc hG (.cells #[.bool true, .int .i64 (naC a1_13), .int .u64 a1_14] 38)
    have hL6 := HL.out.keep hG'
    replace q1r := q1r.grown hG' (by simp)
    replace qpr := qpr.grown hG' (by simp)
    have qnr := new3 u6 38 (.bool true) (.int .i64 (naC a1_13)) (.int .u64 a1_14)
    clear hG hG' HL lt k0 k1 k2 k3 k4 k5 k6 k7 k8 k9 k10 k11 k12 k13 k14
    go_upto_region 13 with (fail)
    generalize u6.alloc (.cells #[.bool true, .int .i64 (naC a1_13), .int .u64 a1_14] 38) = U6 at *
    generalize u6.heap.size = qn at *
    obtain ⟨k0, k1, k2, k3, k4, k5, k6, k7, k8, k9, k10, k11, k12, k13, k14⟩ := cells15 hL6.tr
    have lt := hL6.tr.lt
    have HL := Lib.hid hL6
    clear hL6
    go_wp2_with fail
    refine (PG.out _).mono ?_
    rintro e u7 ⟨rfl, hG⟩
    have hL7 := HL.out.keep hG
    replace q1r := q1r.grown hG (by simp)
    replace qpr := qpr.grown hG (by simp)
    replace qnr := qnr.grown hG (by simp)
    clear hG HL lt k0 k1 k2 k3 k4 k5 k6 k7 k8 k9 k10 k11 k12 k13 k14
    have HGR := Lib.hid (gr_below hL7.gr)
    obtain ⟨f0, f1, f2⟩ := cells3 q1r
    obtain ⟨g0, g1, g2⟩ := cells3 qpr
    obtain ⟨n0, n1, n2⟩ := cells3 qnr
    have r1 := q1r.lt
    have r2 := qpr.lt
    have r3 := qnr.lt
    clear hL7 q1r qpr qnr
    have hne := pf_na a1_13
    rcases m3 with rfl | rfl
    · have E1 := fun W => eql_Fs true (pfC a1_13) a1_14 W
      generalize pfC a1_13 = y1 at *
      generalize naC a1_13 = y2 at *
      go_wp2_with fail
      go_ret
      exact ⟨rfl, HGR.out⟩
    · have E1 := fun W => eql_Fs true (naC a1_13) a1_14 W
      have E2 := fun W => eql_F true true (naC a1_13) a1_14 (pfC a1_13) a1_14 W
      rw [sameF_dec, decide_eq_false (fun h => hne h.symm)] at E2
      clear hne
      generalize pfC a1_13 = y1 at *
      generalize naC a1_13 = y2 at *
      go_wp2_with fail
      go_ret
      exact ⟨rfl, HGR.out⟩

theorem own : ownKnob Try.prog.godebug = none := by kernel_rfl
theorem laidOut : laidOutB Try.prog = true := by kernel_rfl

set_option maxRecDepth 100000 in
theorem lifted (os : Os) (started : os.Started) (H : Type) (enc : TypeId × Value → H) :
    ReturnsInHanded {} Try.checked os 4 .any (Rows.walkMaySpec.pre6 enc Try.prog Try.f4 Rows.walkMayRow.domain false) (Rows.walkMaySpec.post enc Try.prog Try.f4 false true false false) := by
  refine returnsInHanded_of_change (C := Try.checked) own started (by kernel_rfl) Try.func4
    (ChangeSpec.witness6 (enc := enc) (C := Try.checked) false ⟨#[], #[.agg #[.int .u8 0, .slice none 0 0], .agg #[.int .u64 0, .int .u64 0, .int .u64 0, .int .u64 0, .int .u64 0, .int .u64 0, .int .u64 0, .int .u64 0, .int .u64 0, .int .u64 0, .int .u64 0, .int .u64 0, .int .i64 0, .int .i64 0, .int .u64 0]], []⟩ 8 (by kernel_rfl) (by kernel_rfl) (by kernel_rfl) (by kernel_rfl)) ?_
  intro W base args ds gs before hval0 hW hcnd _
  have hval : ∀ (j : Nat) t v, Try.f4.params[j]? = some t → args[j]? = some v → Value.okWide Try.prog W .any base t v := hval0
  have hW' := hW
  obtain ⟨p, q, hA0, hV, rfl, hfz, hnd⟩ := hW
  have hA : DataW.TrodAll enc Try.prog W 0 (fun _ => true) true Try.f4.params.toList args.toList ds p := hA0
  rw [Try.params4] at hA hval
  obtain ⟨v0, vs0, d0, ds0, p0, q0, hargs, rfl, rfl, h0, r0⟩ := trodAll_cons hA
  obtain ⟨v1, vs1, d1, ds1, p1, q1, rfl, rfl, rfl, h1, r1⟩ := trodAll_cons r0
  obtain ⟨rfl, rfl, rfl⟩ := trodAll_nil r1
  obtain rfl : args = #[v0, v1] := by cases args; simp_all
  obtain ⟨rfl, rfl⟩ := trodVars_none hV
  clear hA0 hval0 hA
  have k0 := h0
  have lt0 : ∀ x ∈ p0, x.block < W.heap.size := by obtain ⟨m, hm⟩ := k0; exact DataW.trod_lt m _ _ _ hm
  obtain ⟨xs0, rfl, l0, m0, f0⟩ := Op.open_struct Try.underlying24 (hval 0 24 v0 rfl rfl) h0
  rw [show Try.prog.cellsOf 24 = 2 from by kernel_rfl] at l0
  obtain _ | ⟨c0_0, xs0⟩ := xs0
  · simp at l0
  obtain _ | ⟨c0_1, xs0⟩ := xs0
  · simp at l0
  obtain _ | ⟨_, _⟩ := xs0
  rotate_left
  · simp at l0
  clear h0
  obtain ⟨zf0_0, gf0_0⟩ := f0 0 _ rfl
  replace gf0_0 : DataW.trod enc Try.prog W 0 (fun _ => true) true m0 5 [c0_0] = some zf0_0 := gf0_0
  obtain ⟨a0_0, e0_0, _, w0_0⟩ := DataW.trod_int Try.underlying5 gf0_0
  simp at e0_0; subst e0_0
  obtain ⟨zf0_1, gf0_1⟩ := f0 1 _ rfl
  replace gf0_1 : DataW.trod enc Try.prog W 0 (fun _ => true) true m0 22 [c0_1] = some zf0_1 := gf0_1
  obtain ⟨A0_1, n0_1, k0_1, e0_1, mc0_1, cc0_1, raw0_1⟩ := Op.read_items Try.underlying22 Try.underlying71 (by kernel_rfl) (by kernel_rfl) (by decide) gf0_1
  subst e0_1
  have el0_1 : ∀ i, i < n0_1 → ∃ ad, A0_1 = some ad ∧ ad.block < W.heap.size ∧ ∃ (x0 : Int) (x1 : Int), (W.cell? (ad.add (i * 2 + 0)) = some (.int .u32 x0) ∧ (Lit.int .u32 x0).wf = true) ∧ (W.cell? (ad.add (i * 2 + 1)) = some (.int .u64 x1) ∧ (Lit.int .u64 x1).wf = true) := by
    intro i hi
    obtain ⟨ad, hA, hb, n, hf⟩ := raw0_1 i hi
    obtain ⟨u0, yy0, hu0, ht0⟩ := hf 0 _ rfl
    obtain ⟨x0, ee0, _, ww0⟩ := DataW.trod_int Try.underlying69 ht0; simp only [List.cons.injEq, and_true] at ee0; subst ee0
    obtain ⟨u1, yy1, hu1, ht1⟩ := hf 1 _ rfl
    obtain ⟨x1, ee1, _, ww1⟩ := DataW.trod_int Try.underlying25 ht1; simp only [List.cons.injEq, and_true] at ee1; subst ee1
    exact ⟨ad, hA, hb, x0, x1, ⟨hu0, ww0⟩, ⟨hu1, ww1⟩⟩
  have k1 := h1
  have lt1 : ∀ x ∈ p1, x.block < W.heap.size := by obtain ⟨m, hm⟩ := k1; exact DataW.trod_lt m _ _ _ hm
  obtain ⟨xs1, rfl, l1, m1, f1⟩ := Op.open_struct Try.underlying29 (hval 1 29 v1 rfl rfl) h1
  rw [show Try.prog.cellsOf 29 = 15 from by kernel_rfl] at l1
  obtain _ | ⟨c1_0, xs1⟩ := xs1
  · simp at l1
  obtain _ | ⟨c1_1, xs1⟩ := xs1
  · simp at l1
  obtain _ | ⟨c1_2, xs1⟩ := xs1
  · simp at l1
  obtain _ | ⟨c1_3, xs1⟩ := xs1
  · simp at l1
  obtain _ | ⟨c1_4, xs1⟩ := xs1
  · simp at l1
  obtain _ | ⟨c1_5, xs1⟩ := xs1
  · simp at l1
  obtain _ | ⟨c1_6, xs1⟩ := xs1
  · simp at l1
  obtain _ | ⟨c1_7, xs1⟩ := xs1
  · simp at l1
  obtain _ | ⟨c1_8, xs1⟩ := xs1
  · simp at l1
  obtain _ | ⟨c1_9, xs1⟩ := xs1
  · simp at l1
  obtain _ | ⟨c1_10, xs1⟩ := xs1
  · simp at l1
  obtain _ | ⟨c1_11, xs1⟩ := xs1
  · simp at l1
  obtain _ | ⟨c1_12, xs1⟩ := xs1
  · simp at l1
  obtain _ | ⟨c1_13, xs1⟩ := xs1
  · simp at l1
  obtain _ | ⟨c1_14, xs1⟩ := xs1
  · simp at l1
  obtain _ | ⟨_, _⟩ := xs1
  rotate_left
  · simp at l1
  clear h1
  obtain ⟨zf1_0, gf1_0⟩ := f1 0 _ rfl
  replace gf1_0 : DataW.trod enc Try.prog W 0 (fun _ => true) true m1 27 [c1_0, c1_1, c1_2, c1_3, c1_4, c1_5, c1_6, c1_7, c1_8, c1_9, c1_10, c1_11] = some zf1_0 := gf1_0
  obtain ⟨mf1_0, ff1_0⟩ := Op.read_struct Try.underlying27 gf1_0
  obtain ⟨zff1_0_0, gff1_0_0⟩ := ff1_0 0 _ rfl
  replace gff1_0_0 : DataW.trod enc Try.prog W 0 (fun _ => true) true mf1_0 25 [c1_0] = some zff1_0_0 := gff1_0_0
  obtain ⟨a1_0, e1_0, _, w1_0⟩ := DataW.trod_int Try.underlying25 gff1_0_0
  simp at e1_0; subst e1_0
  obtain ⟨zff1_0_1, gff1_0_1⟩ := ff1_0 1 _ rfl
  replace gff1_0_1 : DataW.trod enc Try.prog W 0 (fun _ => true) true mf1_0 25 [c1_1] = some zff1_0_1 := gff1_0_1
  obtain ⟨a1_1, e1_1, _, w1_1⟩ := DataW.trod_int Try.underlying25 gff1_0_1
  simp at e1_1; subst e1_1
  obtain ⟨zff1_0_2, gff1_0_2⟩ := ff1_0 2 _ rfl
  replace gff1_0_2 : DataW.trod enc Try.prog W 0 (fun _ => true) true mf1_0 25 [c1_2] = some zff1_0_2 := gff1_0_2
  obtain ⟨a1_2, e1_2, _, w1_2⟩ := DataW.trod_int Try.underlying25 gff1_0_2
  simp at e1_2; subst e1_2
  obtain ⟨zff1_0_3, gff1_0_3⟩ := ff1_0 3 _ rfl
  replace gff1_0_3 : DataW.trod enc Try.prog W 0 (fun _ => true) true mf1_0 25 [c1_3] = some zff1_0_3 := gff1_0_3
  obtain ⟨a1_3, e1_3, _, w1_3⟩ := DataW.trod_int Try.underlying25 gff1_0_3
  simp at e1_3; subst e1_3
  obtain ⟨zff1_0_4, gff1_0_4⟩ := ff1_0 4 _ rfl
  replace gff1_0_4 : DataW.trod enc Try.prog W 0 (fun _ => true) true mf1_0 25 [c1_4] = some zff1_0_4 := gff1_0_4
  obtain ⟨a1_4, e1_4, _, w1_4⟩ := DataW.trod_int Try.underlying25 gff1_0_4
  simp at e1_4; subst e1_4
  obtain ⟨zff1_0_5, gff1_0_5⟩ := ff1_0 5 _ rfl
  replace gff1_0_5 : DataW.trod enc Try.prog W 0 (fun _ => true) true mf1_0 25 [c1_5] = some zff1_0_5 := gff1_0_5
  obtain ⟨a1_5, e1_5, _, w1_5⟩ := DataW.trod_int Try.underlying25 gff1_0_5
  simp at e1_5; subst e1_5
  obtain ⟨zff1_0_6, gff1_0_6⟩ := ff1_0 6 _ rfl
  replace gff1_0_6 : DataW.trod enc Try.prog W 0 (fun _ => true) true mf1_0 25 [c1_6] = some zff1_0_6 := gff1_0_6
  obtain ⟨a1_6, e1_6, _, w1_6⟩ := DataW.trod_int Try.underlying25 gff1_0_6
  simp at e1_6; subst e1_6
  obtain ⟨zff1_0_7, gff1_0_7⟩ := ff1_0 7 _ rfl
  replace gff1_0_7 : DataW.trod enc Try.prog W 0 (fun _ => true) true mf1_0 25 [c1_7] = some zff1_0_7 := gff1_0_7
  obtain ⟨a1_7, e1_7, _, w1_7⟩ := DataW.trod_int Try.underlying25 gff1_0_7
  simp at e1_7; subst e1_7
  obtain ⟨zff1_0_8, gff1_0_8⟩ := ff1_0 8 _ rfl
  replace gff1_0_8 : DataW.trod enc Try.prog W 0 (fun _ => true) true mf1_0 25 [c1_8] = some zff1_0_8 := gff1_0_8
  obtain ⟨a1_8, e1_8, _, w1_8⟩ := DataW.trod_int Try.underlying25 gff1_0_8
  simp at e1_8; subst e1_8
  obtain ⟨zff1_0_9, gff1_0_9⟩ := ff1_0 9 _ rfl
  replace gff1_0_9 : DataW.trod enc Try.prog W 0 (fun _ => true) true mf1_0 25 [c1_9] = some zff1_0_9 := gff1_0_9
  obtain ⟨a1_9, e1_9, _, w1_9⟩ := DataW.trod_int Try.underlying25 gff1_0_9
  simp at e1_9; subst e1_9
  obtain ⟨zff1_0_10, gff1_0_10⟩ := ff1_0 10 _ rfl
  replace gff1_0_10 : DataW.trod enc Try.prog W 0 (fun _ => true) true mf1_0 25 [c1_10] = some zff1_0_10 := gff1_0_10
  obtain ⟨a1_10, e1_10, _, w1_10⟩ := DataW.trod_int Try.underlying25 gff1_0_10
  simp at e1_10; subst e1_10
  obtain ⟨zff1_0_11, gff1_0_11⟩ := ff1_0 11 _ rfl
  replace gff1_0_11 : DataW.trod enc Try.prog W 0 (fun _ => true) true mf1_0 25 [c1_11] = some zff1_0_11 := gff1_0_11
  obtain ⟨a1_11, e1_11, _, w1_11⟩ := DataW.trod_int Try.underlying25 gff1_0_11
  simp at e1_11; subst e1_11
  obtain ⟨zf1_1, gf1_1⟩ := f1 1 _ rfl
  replace gf1_1 : DataW.trod enc Try.prog W 0 (fun _ => true) true m1 3 [c1_12] = some zf1_1 := gf1_1
  obtain ⟨a1_12, e1_12, _, w1_12⟩ := DataW.trod_int Try.underlying3 gf1_1
  simp at e1_12; subst e1_12
  obtain ⟨zf1_2, gf1_2⟩ := f1 2 _ rfl
  replace gf1_2 : DataW.trod enc Try.prog W 0 (fun _ => true) true m1 3 [c1_13] = some zf1_2 := gf1_2
  obtain ⟨a1_13, e1_13, _, w1_13⟩ := DataW.trod_int Try.underlying3 gf1_2
  simp at e1_13; subst e1_13
  obtain ⟨zf1_3, gf1_3⟩ := f1 3 _ rfl
  replace gf1_3 : DataW.trod enc Try.prog W 0 (fun _ => true) true m1 25 [c1_14] = some zf1_3 := gf1_3
  obtain ⟨a1_14, e1_14, _, w1_14⟩ := DataW.trod_int Try.underlying25 gf1_3
  simp at e1_14; subst e1_14
  refine (walk W a0_0 w0_0 A0_1 n0_1 k0_1 mc0_1 cc0_1 el0_1 a1_0 w1_0 a1_1 w1_1 a1_2 w1_2 a1_3 w1_3 a1_4 w1_4 a1_5 w1_5 a1_6 w1_6 a1_7 w1_7 a1_8 w1_8 a1_9 w1_9 a1_10 w1_10 a1_11 w1_11 a1_12 w1_12 a1_13 w1_13 a1_14 w1_14).mono fun e W' ⟨he, bel⟩ => ?_
  subst he
  exact ⟨_, rfl, _, _, _, [], _, [], hW', trodAll_mk1 (shut_bool Try.underlying4 _), (trodAll_cons_mk (Below.trod laidOut (by kernel_rfl) (of_decide_eq_true (by kernel_rfl)) k0 bel lt0) (trodAll_cons_mk (Below.trod laidOut (by kernel_rfl) (of_decide_eq_true (by kernel_rfl)) k1 bel lt1) trodAll_mk0)), rfl, bel.frame _, fun h => by cases h⟩

theorem over : Rows.walkMayRow.holds Try.pinned (OpenSpec.ofChange Rows.walkMaySpec) :=
  OpenClaim.holds_of_wide 4 Try.f4 rfl rfl rfl rfl rfl rfl rfl ⟨rfl, rfl, rfl, rfl, rfl⟩ rfl rfl rfl rfl rfl (by kernel_rfl) Try.func4 (by kernel_rfl)
    (of_decide_eq_true (by kernel_rfl)) (by unfold Func.isWrapper; first | (rw [if_pos (by decide +kernel)]; kernel_rfl) | (rw [if_neg (by decide +kernel)]; exact ⟨rfl, rfl⟩))
    (fun os started H enc _ => lifted os started H enc)

/-- The statement. -/
theorem proved : Rows.WalkMaySaid := over
#print axioms proved

end Go.Proofs.Ytaeloplmcinagaa.walkMay
