/-
  What Enter and Back of package trap answer: contracts over the program's translation.
  Conditions: the arguments are numbers of their kinds.
-/
import Derived.Test.YtkfmcbhoendocaaDoorTrC
import Derived.Test.YtkfmcbhoendocaaDoorCsrLw
namespace Go.Proofs.YtkfmcbhoendocaaDoor
open Go Go.RowKit Go.Maps W M D A C J
set_option linter.unusedVariables false
set_option linter.unusedSimpArgs false

/-- A row and a number that are handed back. -/
def vCT (c : Cs) (x : Value) : Value := .tuple #[vC c, x]
theorem ret_CT {fn : Func} {p u : Tmp} (h : fn.results = #[.cell p 24, .tmp u]) {R : Ending → World → Prop} {a : Act} {w : World} {g : Nat} {c : Cs} {x : Value}
    (hp : a.tmps.getD p undef = .pointer (some ⟨g, 0, none⟩)) (h1 : a.tmps.getD u undef = x) (hd : a.defers = []) (hR : Row w g 24 (lC c)) (hl : c.length = 12) (hQ : R (.returned (vCT c x)) w) :
    bodyPost Tryd.prog fn R .ret a w := by
  have la : (loadVar 24 ⟨g, 0, none⟩).run Tryd.prog w = .ok (vC c) w := run_loadVar_row w g _ 24 (lC c).toArray (0, 0) _ hR Tryd.underlying24 rfl (lC_size hl)
  refine bodyPost_ret (v := vCT c x) ?_ hd hQ
  have hp' : a.tmps[p]?.getD undef = .pointer (some ⟨g, 0, none⟩) := by simpa using hp
  have h1' : a.tmps[u]?.getD undef = x := by simpa using h1
  simp [results, h, hp', h1', asAddr, la, vCT]
/-- A row, and two values that are handed back. -/
def vCTT (c : Cs) (x y : Value) : Value := .tuple #[vC c, x, y]
theorem ret_CTT {fn : Func} {p u s : Tmp} (h : fn.results = #[.cell p 24, .tmp u, .tmp s]) {R : Ending → World → Prop} {a : Act} {w : World} {g : Nat} {c : Cs} {x y : Value}
    (hp : a.tmps.getD p undef = .pointer (some ⟨g, 0, none⟩)) (h1 : a.tmps.getD u undef = x) (h2 : a.tmps.getD s undef = y) (hd : a.defers = []) (hR : Row w g 24 (lC c)) (hl : c.length = 12) (hQ : R (.returned (vCTT c x y)) w) :
    bodyPost Tryd.prog fn R .ret a w := by
  have la : (loadVar 24 ⟨g, 0, none⟩).run Tryd.prog w = .ok (vC c) w := run_loadVar_row w g _ 24 (lC c).toArray (0, 0) _ hR Tryd.underlying24 rfl (lC_size hl)
  refine bodyPost_ret (v := vCTT c x y) ?_ hd hQ
  have hp' : a.tmps[p]?.getD undef = .pointer (some ⟨g, 0, none⟩) := by simpa using hp
  have h1' : a.tmps[u]?.getD undef = x := by simpa using h1
  have h2' : a.tmps[s]?.getD undef = y := by simpa using h2
  simp [results, h, hp', h1', h2', asAddr, la, vCTT]
set_option maxHeartbeats 2000000 in
theorem Back_c (c : Cs) (hc : C.Good c) (w : World) :
    Calls Tryd.prog 9 #[vC c] w fun e w' => e = .returned (vCTT (backV c) (.int .u64 (gC c 5)) (.int .i64 (privV (gC c 0)))) ∧ w.grownBy w' none := by
  have HR := Row.fresh w 24 (lC c)
  have hl := left_bd (hc.get 0)
  have h0 := hc.get 0
  have L := Lib.hid (fun W => left_c (gC c 0) (hc.get 0) W)
  obtain ⟨a0, a1, a2, a3, a4, a5, a6, a7, a8, a9, a10, a11, rfl⟩ := twelve hc.1
  rw [vC_12, back_12]
  rw [show gC [a0, a1, a2, a3, a4, a5, a6, a7, a8, a9, a10, a11] 0 = a0 from rfl] at L hl h0 ⊢
  rw [show gC [a0, a1, a2, a3, a4, a5, a6, a7, a8, a9, a10, a11] 5 = a5 from rfl]
  generalize leftV a0 = l0 at *
  have G := gr_alloc (gr_alloc (gr_refl w none) (.cells #[.int .u64 a0, .int .u64 a1, .int .u64 a2, .int .u64 a3, .int .u64 a4, .int .u64 a5, .int .u64 a6, .int .u64 a7, .int .u64 a8, .int .u64 a9, .int .u64 a10, .int .u64 a11] 24)) (.cells #[.int .u64 0, .int .u64 0, .int .u64 0, .int .u64 0, .int .u64 0, .int .u64 0, .int .u64 0, .int .u64 0, .int .u64 0, .int .u64 0, .int .u64 0, .int .u64 0] 24)
  have RQ : Row ((w.alloc (.cells #[.int .u64 a0, .int .u64 a1, .int .u64 a2, .int .u64 a3, .int .u64 a4, .int .u64 a5, .int .u64 a6, .int .u64 a7, .int .u64 a8, .int .u64 a9, .int .u64 a10, .int .u64 a11] 24)).alloc (.cells #[.int .u64 0, .int .u64 0, .int .u64 0, .int .u64 0, .int .u64 0, .int .u64 0, .int .u64 0, .int .u64 0, .int .u64 0, .int .u64 0, .int .u64 0, .int .u64 0] 24)) w.heap.size 24 (lC [a0, a1, a2, a3, a4, a5, a6, a7, a8, a9, a10, a11]) := HR.alloc _
  have RZ : Row ((w.alloc (.cells #[.int .u64 a0, .int .u64 a1, .int .u64 a2, .int .u64 a3, .int .u64 a4, .int .u64 a5, .int .u64 a6, .int .u64 a7, .int .u64 a8, .int .u64 a9, .int .u64 a10, .int .u64 a11] 24)).alloc (.cells #[.int .u64 0, .int .u64 0, .int .u64 0, .int .u64 0, .int .u64 0, .int .u64 0, .int .u64 0, .int .u64 0, .int .u64 0, .int .u64 0, .int .u64 0, .int .u64 0] 24)) (w.heap.size + 1) 24 zC := freshB w (.cells #[.int .u64 a0, .int .u64 a1, .int .u64 a2, .int .u64 a3, .int .u64 a4, .int .u64 a5, .int .u64 a6, .int .u64 a7, .int .u64 a8, .int .u64 a9, .int .u64 a10, .int .u64 a11] 24) 24 zC
  clear HR hc
  unfold B64 at h0 hl
  go_enter Tryd.func9, Tryd.ntmps9
  obtain ⟨q, hq⟩ : ∃ q, w.heap.size = q := ⟨_, rfl⟩
  have HQ := Lib.hid (show w.heap.size ≤ q by omega)
  go_upto_region 2 with (fail)
  rw [hq] at RQ RZ
  clear hq
  generalize ((w.alloc (.cells #[.int .u64 a0, .int .u64 a1, .int .u64 a2, .int .u64 a3, .int .u64 a4, .int .u64 a5, .int .u64 a6, .int .u64 a7, .int .u64 a8, .int .u64 a9, .int .u64 a10, .int .u64 a11] 24)).alloc (.cells #[.int .u64 0, .int .u64 0, .int .u64 0, .int .u64 0, .int .u64 0, .int .u64 0, .int .u64 0, .int .u64 0, .int .u64 0, .int .u64 0, .int .u64 0, .int .u64 0] 24)) = V at *
  have GG := Lib.hid G
  clear G
  obtain ⟨k0, k1, k2, k3, k4, k5, k6, k7, k8, k9, k10, k11⟩ := cells12 RQ
  have fr := RQ.free
  have lt := RQ.lt
  cases e : bits .and .u64 a0 256 == 0
  · have d : (bits .and .u64 a0 256 != 0) = true := by simp only [bne, e]; rfl
    have EP := Lib.hid (show privV a0 = 1 by unfold privV onV andV; rw [e]; rfl)
    go_wp2_with fail
    refine (L.out _).mono ?_
    rintro e' w1 ⟨rfl, rfl⟩
    have R1 : Row (V.setCell ⟨q, 0, none⟩ (.int .u64 l0)) q 24 (lC [l0, a1, a2, a3, a4, a5, a6, a7, a8, a9, a10, a11]) := RQ.put 0 (.int .u64 l0)
    have Z1 : Row (V.setCell ⟨q, 0, none⟩ (.int .u64 l0)) (q + 1) 24 zC := RZ.other (show q + 1 ≠ q by omega) (.int .u64 l0)
    have G1 : w.grownBy (V.setCell ⟨q, 0, none⟩ (.int .u64 l0)) none := gr_row (gr_set (gr_none GG.out (some q)) _) HQ.out
    go_upto_region 5 with (fail)
    clear k0 k1 k2 k3 k4 k5 k6 k7 k8 k9 k10 k11 fr lt RQ RZ GG
    generalize V.setCell ⟨q, 0, none⟩ (.int .u64 l0) = U at *
    obtain ⟨m0, m1, m2, m3, m4, m5, m6, m7, m8, m9, m10, m11⟩ := cells12 R1
    obtain ⟨z0, z1, z2, z3, z4, z5, z6, z7, z8, z9, z10, z11⟩ := cells12 Z1
    have zf := Z1.free
    have lt := R1.lt
    have zt := Z1.lt
    have GU := Lib.hid G1
    have ZU := Lib.hid Z1
    clear G1 R1 Z1
    go_region_with (fail)
    all_goals
      go_wp2_with fail
      exact ret_CTT rfl rfl rfl rfl rfl (c := [l0, a1, a2, a3, a4, a5, a6, a7, a8, a9, a10, a11]) (Row.grown (put12 ZU.out rfl _ _ _ _ _ _ _ _ _ _ _ _) (gr_drew (gr_refl _ none)) (by simp)) rfl ⟨by rw [EP.out]; rfl, gr_drew (gr12 GU.out (Nat.le_succ_of_le HQ.out) _ _ _ _ _ _ _ _ _ _ _ _)⟩
  · have d : (bits .and .u64 a0 256 != 0) = false := by simp only [bne, e]; rfl
    have EP := Lib.hid (show privV a0 = 0 by unfold privV onV andV; rw [e]; rfl)
    go_wp2_with fail
    refine (L.out _).mono ?_
    rintro e' w1 ⟨rfl, rfl⟩
    have R1 : Row (V.setCell ⟨q, 0, none⟩ (.int .u64 l0)) q 24 (lC [l0, a1, a2, a3, a4, a5, a6, a7, a8, a9, a10, a11]) := RQ.put 0 (.int .u64 l0)
    have Z1 : Row (V.setCell ⟨q, 0, none⟩ (.int .u64 l0)) (q + 1) 24 zC := RZ.other (show q + 1 ≠ q by omega) (.int .u64 l0)
    have G1 : w.grownBy (V.setCell ⟨q, 0, none⟩ (.int .u64 l0)) none := gr_row (gr_set (gr_none GG.out (some q)) _) HQ.out
    go_upto_region 5 with (fail)
    clear k0 k1 k2 k3 k4 k5 k6 k7 k8 k9 k10 k11 fr lt RQ RZ GG
    generalize V.setCell ⟨q, 0, none⟩ (.int .u64 l0) = U at *
    obtain ⟨m0, m1, m2, m3, m4, m5, m6, m7, m8, m9, m10, m11⟩ := cells12 R1
    obtain ⟨z0, z1, z2, z3, z4, z5, z6, z7, z8, z9, z10, z11⟩ := cells12 Z1
    have zf := Z1.free
    have lt := R1.lt
    have zt := Z1.lt
    have GU := Lib.hid G1
    have ZU := Lib.hid Z1
    clear G1 R1 Z1
    go_region_with (fail)
    all_goals
      go_wp2_with fail
      exact ret_CTT rfl rfl rfl rfl rfl (c := [l0, a1, a2, a3, a4, a5, a6, a7, a8, a9, a10, a11]) (Row.grown (put12 ZU.out rfl _ _ _ _ _ _ _ _ _ _ _ _) (gr_drew (gr_refl _ none)) (by simp)) rfl ⟨by rw [EP.out]; rfl, gr_drew (gr12 GU.out (Nat.le_succ_of_le HQ.out) _ _ _ _ _ _ _ _ _ _ _ _)⟩
theorem told_0 (pc ca v : Int) (W : World) : (Instr.index 39 (.agg #[.int .i64 321, .int .u64 pc, .int .i64 322, .int .u64 ca, .int .i64 323, .int .u64 v]) (.int .i64 0)).run Tryd.prog W = .ok (.agg #[.int .i64 321, .int .u64 pc]) W := by kernel_rfl
theorem told_1 (pc ca v : Int) (W : World) : (Instr.index 39 (.agg #[.int .i64 321, .int .u64 pc, .int .i64 322, .int .u64 ca, .int .i64 323, .int .u64 v]) (.int .i64 1)).run Tryd.prog W = .ok (.agg #[.int .i64 322, .int .u64 ca]) W := by kernel_rfl
theorem told_2 (pc ca v : Int) (W : World) : (Instr.index 39 (.agg #[.int .i64 321, .int .u64 pc, .int .i64 322, .int .u64 ca, .int .i64 323, .int .u64 v]) (.int .i64 2)).run Tryd.prog W = .ok (.agg #[.int .i64 323, .int .u64 v]) W := by kernel_rfl
/-- What stands behind k rounds. -/
def stE (a0 a1 a2 a3 a4 a5 a6 a7 a8 a9 a10 a11 pe ca v : Int) : Nat → Cs
  | 0 => [a0, a1, a2, a3, a4, a5, a6, a7, a8, a9, a10, a11]
  | 1 => [a0, a1, a2, a3, a4, pe, a6, a7, a8, a9, a10, a11]
  | 2 => [a0, a1, a2, a3, a4, pe, ca, a7, a8, a9, a10, a11]
  | _ => [a0, a1, a2, a3, a4, pe, ca, v, a8, a9, a10, a11]
structure En (w : World) (q : Nat) (l : Cs) (wr : World) : Prop where
  row : Row wr q 24 (lC l)
  zer : Row wr (q + 1) 24 zC
  gr : w.grownBy wr none
  sz : w.heap.size = q
set_option maxRecDepth 100000 in
set_option maxHeartbeats 4000000 in
theorem Enter_c (c : Cs) (hc : C.Good c) (p pc : Int) (i : Bool) (kk v : Int) (hp : -9223372036854775808 ≤ p ∧ p ≤ 9223372036854775807) (hpc : B64 pc) (hk : -9223372036854775808 ≤ kk ∧ kk ≤ 9223372036854775807) (hv : B64 v) (w : World) :
    Calls Tryd.prog 7 #[vC c, .int .i64 p, .int .u64 pc, .bool i, .int .i64 kk, .int .u64 v] w fun e w' => e = .returned (vCT (enterV c p pc i kk v) (.int .u64 (handV (gC c 2) i kk))) ∧ w.grownBy w' none := by
  have g := fun i => hc.get i
  obtain ⟨a0, a1, a2, a3, a4, a5, a6, a7, a8, a9, a10, a11, rfl⟩ := twelve hc.1
  rw [enter_12, show gC [a0, a1, a2, a3, a4, a5, a6, a7, a8, a9, a10, a11] 2 = a2 from rfl]
  have g0 : B64 a0 := g 0
  have g2 : B64 a2 := g 2
  have hpe : B64 (epcV pc) := epc_bd hpc
  have hca : B64 (causeV i kk) := cause_bd i kk
  have CO := Lib.hid (fun W => causeOf_c i kk hk W)
  have EN := Lib.hid (fun W => entered_c a0 p g0 hp W)
  have HA := Lib.hid (fun W => handler_c a2 g2 i kk hk W)
  have W0 := Lib.hid (fun W => Write_c [a0, a1, a2, a3, a4, a5, a6, a7, a8, a9, a10, a11] hc 321 pc (by decide) hpc W)
  have W1 := Lib.hid (fun W => Write_c [a0, a1, a2, a3, a4, epcV pc, a6, a7, a8, a9, a10, a11] (hc.put 5 hpe) 322 (causeV i kk) (by decide) hca W)
  have W2 := Lib.hid (fun W => Write_c [a0, a1, a2, a3, a4, epcV pc, causeV i kk, a7, a8, a9, a10, a11] ((hc.put 5 hpe).put 6 hca) 323 v (by decide) hv W)
  have HE := ent_bd g0 p
  have HH := hand_bd g2 i kk
  rw [show writeV [a0, a1, a2, a3, a4, a5, a6, a7, a8, a9, a10, a11] 321 pc = [a0, a1, a2, a3, a4, epcV pc, a6, a7, a8, a9, a10, a11] from rfl, vC_12, vC_12] at W0
  rw [show writeV [a0, a1, a2, a3, a4, epcV pc, a6, a7, a8, a9, a10, a11] 322 (causeV i kk) = [a0, a1, a2, a3, a4, epcV pc, causeV i kk, a7, a8, a9, a10, a11] from rfl, vC_12, vC_12] at W1
  rw [show writeV [a0, a1, a2, a3, a4, epcV pc, causeV i kk, a7, a8, a9, a10, a11] 323 v = [a0, a1, a2, a3, a4, epcV pc, causeV i kk, v, a8, a9, a10, a11] from rfl, vC_12, vC_12] at W2
  rw [vC_12]
  generalize entV a0 p = en at *
  generalize handV a2 i kk = ha at *
  generalize epcV pc = pe at *
  generalize causeV i kk = ca at *
  have RQ : Row ((w.alloc (.cells #[.int .u64 a0, .int .u64 a1, .int .u64 a2, .int .u64 a3, .int .u64 a4, .int .u64 a5, .int .u64 a6, .int .u64 a7, .int .u64 a8, .int .u64 a9, .int .u64 a10, .int .u64 a11] 24)).alloc (.cells #[.int .u64 0, .int .u64 0, .int .u64 0, .int .u64 0, .int .u64 0, .int .u64 0, .int .u64 0, .int .u64 0, .int .u64 0, .int .u64 0, .int .u64 0, .int .u64 0] 24)) w.heap.size 24 (lC [a0, a1, a2, a3, a4, a5, a6, a7, a8, a9, a10, a11]) := (Row.fresh w 24 (lC [a0, a1, a2, a3, a4, a5, a6, a7, a8, a9, a10, a11])).alloc _
  have RZ : Row ((w.alloc (.cells #[.int .u64 a0, .int .u64 a1, .int .u64 a2, .int .u64 a3, .int .u64 a4, .int .u64 a5, .int .u64 a6, .int .u64 a7, .int .u64 a8, .int .u64 a9, .int .u64 a10, .int .u64 a11] 24)).alloc (.cells #[.int .u64 0, .int .u64 0, .int .u64 0, .int .u64 0, .int .u64 0, .int .u64 0, .int .u64 0, .int .u64 0, .int .u64 0, .int .u64 0, .int .u64 0, .int .u64 0] 24)) (w.heap.size + 1) 24 zC := freshB w (.cells #[.int .u64 a0, .int .u64 a1, .int .u64 a2, .int .u64 a3, .int .u64 a4, .int .u64 a5, .int .u64 a6, .int .u64 a7, .int .u64 a8, .int .u64 a9, .int .u64 a10, .int .u64 a11] 24) 24 zC
  have G : w.grownBy ((w.alloc (.cells #[.int .u64 a0, .int .u64 a1, .int .u64 a2, .int .u64 a3, .int .u64 a4, .int .u64 a5, .int .u64 a6, .int .u64 a7, .int .u64 a8, .int .u64 a9, .int .u64 a10, .int .u64 a11] 24)).alloc (.cells #[.int .u64 0, .int .u64 0, .int .u64 0, .int .u64 0, .int .u64 0, .int .u64 0, .int .u64 0, .int .u64 0, .int .u64 0, .int .u64 0, .int .u64 0, .int .u64 0] 24)) none := gr_alloc (gr_alloc (gr_refl w none) (.cells #[.int .u64 a0, .int .u64 a1, .int .u64 a2, .int .u64 a3, .int .u64 a4, .int .u64 a5, .int .u64 a6, .int .u64 a7, .int .u64 a8, .int .u64 a9, .int .u64 a10, .int .u64 a11] 24)) (.cells #[.int .u64 0, .int .u64 0, .int .u64 0, .int .u64 0, .int .u64 0, .int .u64 0, .int .u64 0, .int .u64 0, .int .u64 0, .int .u64 0, .int .u64 0, .int .u64 0] 24)
  have HF := Lib.hid (show En w w.heap.size (stE a0 a1 a2 a3 a4 a5 a6 a7 a8 a9 a10 a11 pe ca v 0) (((w.alloc (.cells #[.int .u64 a0, .int .u64 a1, .int .u64 a2, .int .u64 a3, .int .u64 a4, .int .u64 a5, .int .u64 a6, .int .u64 a7, .int .u64 a8, .int .u64 a9, .int .u64 a10, .int .u64 a11] 24)).alloc (.cells #[.int .u64 0, .int .u64 0, .int .u64 0, .int .u64 0, .int .u64 0, .int .u64 0, .int .u64 0, .int .u64 0, .int .u64 0, .int .u64 0, .int .u64 0, .int .u64 0] 24)).alloc (.cells #[.int .i64 321, .int .u64 pc, .int .i64 322, .int .u64 ca, .int .i64 323, .int .u64 v] 39)) from ⟨RQ.alloc _, RZ.alloc _, gr_alloc G _, rfl⟩)
  clear RQ RZ G hc g
  unfold B64 at g0 g2 hpe hca hpc hv HE HH
  go_enter Tryd.func7, Tryd.ntmps7
  go_wp2_with fail
  refine (CO.out _).mono ?_
  rintro e w1 ⟨rfl, rfl⟩
  go_wp2_with fail
  generalize (((w.alloc (.cells #[.int .u64 a0, .int .u64 a1, .int .u64 a2, .int .u64 a3, .int .u64 a4, .int .u64 a5, .int .u64 a6, .int .u64 a7, .int .u64 a8, .int .u64 a9, .int .u64 a10, .int .u64 a11] 24)).alloc (.cells #[.int .u64 0, .int .u64 0, .int .u64 0, .int .u64 0, .int .u64 0, .int .u64 0, .int .u64 0, .int .u64 0, .int .u64 0, .int .u64 0, .int .u64 0, .int .u64 0] 24)).alloc (.cells #[.int .i64 321, .int .u64 pc, .int .i64 322, .int .u64 ca, .int .i64 323, .int .u64 v] 39)) = V at *
  obtain ⟨q, hq⟩ : ∃ q, w.heap.size = q := ⟨_, rfl⟩
  rw [hq] at HF ⊢
  clear hq
  go_loopw [27] (fun i wr => ∃ (k : Nat), k ≤ 3 ∧ i = .int .i64 k ∧ En w q (stE a0 a1 a2 a3 a4 a5 a6 a7 a8 a9 a10 a11 pe ca v k) wr) (fun i _ => 3 - (intOf i).toNat)
  case atStart => exact ⟨0, by omega, rfl, HF.out⟩
  case round =>
    clear HF
    obtain ⟨k, hk3, rfl, hL⟩ := hrel
    obtain rfl | rfl | rfl | rfl : k = 0 ∨ k = 1 ∨ k = 2 ∨ k = 3 := by omega
    · have I := told_0 pc ca v wr
      have RQ : Row wr q 24 (lC [a0, a1, a2, a3, a4, a5, a6, a7, a8, a9, a10, a11]) := hL.row
      have RN := Row.fresh wr 37 [.int .i64 321, .int .u64 pc]
      have RA := RQ.alloc (.cells #[.int .i64 321, .int .u64 pc] 37)
      have LA : En w q (stE a0 a1 a2 a3 a4 a5 a6 a7 a8 a9 a10 a11 pe ca v 0) (wr.alloc (.cells #[.int .i64 321, .int .u64 pc] 37)) := ⟨hL.row.alloc _, hL.zer.alloc _, gr_alloc hL.gr _, hL.sz⟩
      have n0 : (wr.alloc (.cells #[.int .i64 321, .int .u64 pc] 37)).cell? ⟨wr.heap.size, 0, none⟩ = some (.int .i64 321) := RN.cell 0
      have n1 : (wr.alloc (.cells #[.int .i64 321, .int .u64 pc] 37)).cell? ⟨wr.heap.size, 1, none⟩ = some (.int .u64 pc) := RN.cell 1
      obtain ⟨k0, k1, k2, k3, k4, k5, k6, k7, k8, k9, k10, k11⟩ := cells12 RA
      have HL := Lib.hid LA
      clear LA hL RQ RN RA
      go_upto_region 5 with (fail)
      generalize wr.alloc (.cells #[.int .i64 321, .int .u64 pc] 37) = U at *
      generalize wr.heap.size = n at *
      go_wp2_with fail
      refine (W0.out _).mono ?_
      rintro e w2 ⟨rfl, hG⟩
      have R2 : Row w2 q 24 (lC [a0, a1, a2, a3, a4, a5, a6, a7, a8, a9, a10, a11]) := HL.out.row.grown hG (by simp)
      have Z2 := HL.out.zer.grown hG (by simp)
      have G2 := gr_trans HL.out.gr hG
      have fr := R2.free
      have lt := R2.lt
      have HN := Lib.hid (show En w q (stE a0 a1 a2 a3 a4 a5 a6 a7 a8 a9 a10 a11 pe ca v 1) ((((((((((((w2.setCell ⟨q, 0, none⟩ (.int .u64 a0)).setCell ⟨q, 1, none⟩ (.int .u64 a1)).setCell ⟨q, 2, none⟩ (.int .u64 a2)).setCell ⟨q, 3, none⟩ (.int .u64 a3)).setCell ⟨q, 4, none⟩ (.int .u64 a4)).setCell ⟨q, 5, none⟩ (.int .u64 pe)).setCell ⟨q, 6, none⟩ (.int .u64 a6)).setCell ⟨q, 7, none⟩ (.int .u64 a7)).setCell ⟨q, 8, none⟩ (.int .u64 a8)).setCell ⟨q, 9, none⟩ (.int .u64 a9)).setCell ⟨q, 10, none⟩ (.int .u64 a10)).setCell ⟨q, 11, none⟩ (.int .u64 a11)) from
        ⟨put12 R2 rfl _ _ _ _ _ _ _ _ _ _ _ _, oth12 Z2 (by omega) _ _ _ _ _ _ _ _ _ _ _ _, gr12 G2 (by have := HL.out.sz; omega) _ _ _ _ _ _ _ _ _ _ _ _, HL.out.sz⟩)
      obtain ⟨m0, m1, m2, m3, m4, m5, m6, m7, m8, m9, m10, m11⟩ := cells12 R2
      clear R2 Z2 G2 HL
      go_wp2_with fail
      go_roundw
      case rel => exact ⟨1, by omega, rfl, HN.out⟩
      case measure => simp [intOf]
    · have I := told_1 pc ca v wr
      have RQ : Row wr q 24 (lC [a0, a1, a2, a3, a4, pe, a6, a7, a8, a9, a10, a11]) := hL.row
      have RN := Row.fresh wr 37 [.int .i64 322, .int .u64 ca]
      have RA := RQ.alloc (.cells #[.int .i64 322, .int .u64 ca] 37)
      have LA : En w q (stE a0 a1 a2 a3 a4 a5 a6 a7 a8 a9 a10 a11 pe ca v 1) (wr.alloc (.cells #[.int .i64 322, .int .u64 ca] 37)) := ⟨hL.row.alloc _, hL.zer.alloc _, gr_alloc hL.gr _, hL.sz⟩
      have n0 : (wr.alloc (.cells #[.int .i64 322, .int .u64 ca] 37)).cell? ⟨wr.heap.size, 0, none⟩ = some (.int .i64 322) := RN.cell 0
      have n1 : (wr.alloc (.cells #[.int .i64 322, .int .u64 ca] 37)).cell? ⟨wr.heap.size, 1, none⟩ = some (.int .u64 ca) := RN.cell 1
      obtain ⟨k0, k1, k2, k3, k4, k5, k6, k7, k8, k9, k10, k11⟩ := cells12 RA
      have HL := Lib.hid LA
      clear LA hL RQ RN RA
      go_upto_region 5 with (fail)
      generalize wr.alloc (.cells #[.int .i64 322, .int .u64 ca] 37) = U at *
      generalize wr.heap.size = n at *
      go_wp2_with fail
      refine (W1.out _).mono ?_
      rintro e w2 ⟨rfl, hG⟩
      have R2 : Row w2 q 24 (lC [a0, a1, a2, a3, a4, pe, a6, a7, a8, a9, a10, a11]) := HL.out.row.grown hG (by simp)
      have Z2 := HL.out.zer.grown hG (by simp)
      have G2 := gr_trans HL.out.gr hG
      have fr := R2.free
      have lt := R2.lt
      have HN := Lib.hid (show En w q (stE a0 a1 a2 a3 a4 a5 a6 a7 a8 a9 a10 a11 pe ca v 2) ((((((((((((w2.setCell ⟨q, 0, none⟩ (.int .u64 a0)).setCell ⟨q, 1, none⟩ (.int .u64 a1)).setCell ⟨q, 2, none⟩ (.int .u64 a2)).setCell ⟨q, 3, none⟩ (.int .u64 a3)).setCell ⟨q, 4, none⟩ (.int .u64 a4)).setCell ⟨q, 5, none⟩ (.int .u64 pe)).setCell ⟨q, 6, none⟩ (.int .u64 ca)).setCell ⟨q, 7, none⟩ (.int .u64 a7)).setCell ⟨q, 8, none⟩ (.int .u64 a8)).setCell ⟨q, 9, none⟩ (.int .u64 a9)).setCell ⟨q, 10, none⟩ (.int .u64 a10)).setCell ⟨q, 11, none⟩ (.int .u64 a11)) from
        ⟨put12 R2 rfl _ _ _ _ _ _ _ _ _ _ _ _, oth12 Z2 (by omega) _ _ _ _ _ _ _ _ _ _ _ _, gr12 G2 (by have := HL.out.sz; omega) _ _ _ _ _ _ _ _ _ _ _ _, HL.out.sz⟩)
      obtain ⟨m0, m1, m2, m3, m4, m5, m6, m7, m8, m9, m10, m11⟩ := cells12 R2
      clear R2 Z2 G2 HL
      go_wp2_with fail
      go_roundw
      case rel => exact ⟨2, by omega, rfl, HN.out⟩
      case measure => simp [intOf]
    · have I := told_2 pc ca v wr
      have RQ : Row wr q 24 (lC [a0, a1, a2, a3, a4, pe, ca, a7, a8, a9, a10, a11]) := hL.row
      have RN := Row.fresh wr 37 [.int .i64 323, .int .u64 v]
      have RA := RQ.alloc (.cells #[.int .i64 323, .int .u64 v] 37)
      have LA : En w q (stE a0 a1 a2 a3 a4 a5 a6 a7 a8 a9 a10 a11 pe ca v 2) (wr.alloc (.cells #[.int .i64 323, .int .u64 v] 37)) := ⟨hL.row.alloc _, hL.zer.alloc _, gr_alloc hL.gr _, hL.sz⟩
      have n0 : (wr.alloc (.cells #[.int .i64 323, .int .u64 v] 37)).cell? ⟨wr.heap.size, 0, none⟩ = some (.int .i64 323) := RN.cell 0
      have n1 : (wr.alloc (.cells #[.int .i64 323, .int .u64 v] 37)).cell? ⟨wr.heap.size, 1, none⟩ = some (.int .u64 v) := RN.cell 1
      obtain ⟨k0, k1, k2, k3, k4, k5, k6, k7, k8, k9, k10, k11⟩ := cells12 RA
      have HL := Lib.hid LA
      clear LA hL RQ RN RA
      go_upto_region 5 with (fail)
      generalize wr.alloc (.cells #[.int .i64 323, .int .u64 v] 37) = U at *
      generalize wr.heap.size = n at *
      go_wp2_with fail
      refine (W2.out _).mono ?_
      rintro e w2 ⟨rfl, hG⟩
      have R2 : Row w2 q 24 (lC [a0, a1, a2, a3, a4, pe, ca, a7, a8, a9, a10, a11]) := HL.out.row.grown hG (by simp)
      have Z2 := HL.out.zer.grown hG (by simp)
      have G2 := gr_trans HL.out.gr hG
      have fr := R2.free
      have lt := R2.lt
      have HN := Lib.hid (show En w q (stE a0 a1 a2 a3 a4 a5 a6 a7 a8 a9 a10 a11 pe ca v 3) ((((((((((((w2.setCell ⟨q, 0, none⟩ (.int .u64 a0)).setCell ⟨q, 1, none⟩ (.int .u64 a1)).setCell ⟨q, 2, none⟩ (.int .u64 a2)).setCell ⟨q, 3, none⟩ (.int .u64 a3)).setCell ⟨q, 4, none⟩ (.int .u64 a4)).setCell ⟨q, 5, none⟩ (.int .u64 pe)).setCell ⟨q, 6, none⟩ (.int .u64 ca)).setCell ⟨q, 7, none⟩ (.int .u64 v)).setCell ⟨q, 8, none⟩ (.int .u64 a8)).setCell ⟨q, 9, none⟩ (.int .u64 a9)).setCell ⟨q, 10, none⟩ (.int .u64 a10)).setCell ⟨q, 11, none⟩ (.int .u64 a11)) from
        ⟨put12 R2 rfl _ _ _ _ _ _ _ _ _ _ _ _, oth12 Z2 (by omega) _ _ _ _ _ _ _ _ _ _ _ _, gr12 G2 (by have := HL.out.sz; omega) _ _ _ _ _ _ _ _ _ _ _ _, HL.out.sz⟩)
      obtain ⟨m0, m1, m2, m3, m4, m5, m6, m7, m8, m9, m10, m11⟩ := cells12 R2
      clear R2 Z2 G2 HL
      go_wp2_with fail
      go_roundw
      case rel => exact ⟨3, by omega, rfl, HN.out⟩
      case measure => simp [intOf]
    · have RQ : Row wr q 24 (lC [a0, a1, a2, a3, a4, pe, ca, v, a8, a9, a10, a11]) := hL.row
      have HL := Lib.hid hL
      obtain ⟨k0, k1, k2, k3, k4, k5, k6, k7, k8, k9, k10, k11⟩ := cells12 RQ
      have fr := RQ.free
      have lt := RQ.lt
      clear hL RQ
      go_wp2_with fail
      refine (EN.out _).mono ?_
      rintro e w2 ⟨rfl, rfl⟩
      have R1 : Row (wr.setCell ⟨q, 0, none⟩ (.int .u64 en)) q 24 (lC [en, a1, a2, a3, a4, pe, ca, v, a8, a9, a10, a11]) := HL.out.row.put 0 (.int .u64 en)
      have Z1 : Row (wr.setCell ⟨q, 0, none⟩ (.int .u64 en)) (q + 1) 24 zC := HL.out.zer.other (show q + 1 ≠ q by omega) (.int .u64 en)
      have G1 : w.grownBy (wr.setCell ⟨q, 0, none⟩ (.int .u64 en)) none := gr_row (gr_set (gr_none HL.out.gr (some q)) _) (by have := HL.out.sz; omega)
      go_upto_region 8 with (fail)
      clear k0 k1 k2 k3 k4 k5 k6 k7 k8 k9 k10 k11 fr lt
      generalize wr.setCell ⟨q, 0, none⟩ (.int .u64 en) = U at *
      obtain ⟨m0, m1, m2, m3, m4, m5, m6, m7, m8, m9, m10, m11⟩ := cells12 R1
      obtain ⟨z0, z1, z2, z3, z4, z5, z6, z7, z8, z9, z10, z11⟩ := cells12 Z1
      have zf := Z1.free
      have lt := R1.lt
      have zt := Z1.lt
      have GU := Lib.hid G1
      have ZU := Lib.hid Z1
      have RU := Lib.hid R1
      have HS := Lib.hid HL.out.sz
      clear G1 R1 Z1 HL
      go_region_with (go_at_call 19; refine (HA.out _).mono ?_; rintro e w3 ⟨rfl, rfl⟩)
      all_goals
        go_wp2_with fail
        exact ret_CT rfl rfl rfl rfl (c := [en, a1, a2, a3, a4, pe, ca, v, a8, a9, a10, a11]) (x := .int .u64 ha) (Row.grown (put12 ZU.out rfl _ _ _ _ _ _ _ _ _ _ _ _) (gr_drew (gr_refl _ none)) (by simp)) rfl ⟨rfl, gr_drew (gr12 GU.out (by have := HS.out; omega) _ _ _ _ _ _ _ _ _ _ _ _)⟩
end Go.Proofs.YtkfmcbhoendocaaDoor
