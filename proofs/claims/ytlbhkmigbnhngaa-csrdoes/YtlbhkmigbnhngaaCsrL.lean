/-
  What Legal of package csr answers: a contract over the program's translation.
  Conditions: the arguments are numbers of their kinds.
-/
import Derived.Test.YtlbhkmigbnhngaaCsrE
namespace Go.Proofs.Ytlbhkmigbnhngaa
open Go Go.RowKit Go.Maps W M D A C
set_option linter.unusedVariables false
set_option linter.unusedSimpArgs false

def numV (k : Nat) : Int := [256, 260, 261, 262, 321].getD k 0
def stepV (c : Cs) : Nat → Cs
  | 0 => c
  | k + 1 => againV (stepV c k) (numV k)
theorem step_good {c : Cs} (h : C.Good c) : ∀ k, C.Good (stepV c k)
  | 0 => h
  | k + 1 => again_good (step_good h k) _
theorem step_five (c : Cs) : stepV c 5 = fiveV c := rfl
/-- How the row stands behind k rounds. -/
structure Lg (w : World) (q : Nat) (c : Cs) (k : Nat) (wr : World) : Prop where
  row : Row wr q 24 (lC (stepV c k))
  zer : Row wr (q + 1) 24 zC
  gr : w.grownBy wr none
set_option maxHeartbeats 4000000 in
theorem Legal_c (c : Cs) (hc : C.Good c) (w : World) :
    Calls Try.prog 16 #[vC c] w fun e w' => e = .returned (vC (legalV c)) ∧ w.grownBy w' none := by
  have HC := Lib.hid hc
  have hF : Lg w w.heap.size c 0 ((w.alloc (.cells (lC c).toArray 24)).alloc (.cells zC.toArray 24)) :=
    ⟨(Row.fresh w 24 (lC c)).alloc _, by have := Row.fresh (w.alloc (.cells (lC c).toArray 24)) 24 zC; simpa using this, gr_alloc (gr_alloc (gr_refl _ _) _) _⟩
  have HF := Lib.hid hF
  clear hF hc
  obtain ⟨a0, a1, a2, a3, a4, a5, a6, a7, a8, a9, a10, a11, hc⟩ := twelve HC.out.1
  rw [hc, vC_12, ← hc]
  have hV : (lC c).toArray = #[.int .u64 a0, .int .u64 a1, .int .u64 a2, .int .u64 a3, .int .u64 a4, .int .u64 a5, .int .u64 a6, .int .u64 a7, .int .u64 a8, .int .u64 a9, .int .u64 a10, .int .u64 a11] := by rw [hc]; rfl
  rw [hV, show zC.toArray = #[.int .u64 0, .int .u64 0, .int .u64 0, .int .u64 0, .int .u64 0, .int .u64 0, .int .u64 0, .int .u64 0, .int .u64 0, .int .u64 0, .int .u64 0, .int .u64 0] from rfl] at HF
  clear hV hc
  go_enter Try.func16, Try.ntmps16
  go_wp2_with fail
  generalize ((w.alloc (.cells #[.int .u64 a0, .int .u64 a1, .int .u64 a2, .int .u64 a3, .int .u64 a4, .int .u64 a5, .int .u64 a6, .int .u64 a7, .int .u64 a8, .int .u64 a9, .int .u64 a10, .int .u64 a11] 24)).alloc (.cells #[.int .u64 0, .int .u64 0, .int .u64 0, .int .u64 0, .int .u64 0, .int .u64 0, .int .u64 0, .int .u64 0, .int .u64 0, .int .u64 0, .int .u64 0, .int .u64 0] 24)) = V at *
  obtain ⟨q, hq⟩ : ∃ q, w.heap.size = q := ⟨_, rfl⟩
  rw [hq] at HF ⊢
  have HQ := Lib.hid (show w.heap.size ≤ q by omega)
  clear hq
  go_loopw [7] (fun i wr => ∃ (k : Nat), k ≤ 5 ∧ i = .int .i64 k ∧ Lg w q c k wr) (fun i _ => 5 - (intOf i).toNat)
  case atStart => exact ⟨0, by omega, rfl, HF.out⟩
  case round =>
    clear HF
    obtain ⟨k, hk, rfl, hL⟩ := hrel
    by_cases hk5 : k < 5
    · have HG := Lib.hid (step_good HC.out k)
      have HN := Lib.hid (step_good HC.out (k + 1))
      have hL' := hL.row
      obtain ⟨d0, d1, d2, d3, d4, d5, d6, d7, d8, d9, d10, d11, ed⟩ := twelve HG.out.1
      obtain ⟨b0, b1, b2, b3, b4, b5, b6, b7, b8, b9, b10, b11, eb⟩ := twelve HN.out.1
      have ES : Row wr q 24 (lC [d0, d1, d2, d3, d4, d5, d6, d7, d8, d9, d10, d11]) := by rw [← ed]; exact hL.row
      have hR := Lib.hid (fun W => Read_c (stepV c k) HG.out (numV k) 0 (by unfold numV; rcases k with _ | _ | _ | _ | _ | k <;> first | decide | omega) (by decide) W)
      have hW := Lib.hid (fun W => Write_c (stepV c k) HG.out (numV k) (readV (stepV c k) (numV k) 0) (by unfold numV; rcases k with _ | _ | _ | _ | _ | k <;> first | decide | omega) (read_bd HG.out _ (by decide)) W)
      have hB := read_bd HG.out (numV k) (show B64 0 by decide)
      rw [show writeV (stepV c k) (numV k) (readV (stepV c k) (numV k) 0) = [b0, b1, b2, b3, b4, b5, b6, b7, b8, b9, b10, b11] from eb] at hW
      rw [ed, vC_12] at hR hW
      rw [vC_12] at hW
      rw [ed] at hB
      generalize readV [d0, d1, d2, d3, d4, d5, d6, d7, d8, d9, d10, d11] (numV k) 0 = y at *
      obtain ⟨k0, k1, k2, k3, k4, k5, k6, k7, k8, k9, k10, k11⟩ := cells12 ES
      have fr := ES.free
      have hidx : (Instr.index 58 (.agg #[.int .i64 256, .int .i64 260, .int .i64 261, .int .i64 262, .int .i64 321]) (.int .i64 (k : Int))).run Try.prog wr = .ok (.int .i64 (numV k)) wr := by
        clear HG HN ES hR hW hB hL hL' ed eb k0 k1 k2 k3 k4 k5 k6 k7 k8 k9 k10 k11 fr
        rcases k with _ | _ | _ | _ | _ | k <;> first | omega | kernel_rfl
      have HL := Lib.hid hL
      have EB := Lib.hid eb
      clear hL hL' ed eb
      generalize numV k = nn at *
      unfold B64 at hB
      have lq := ES.lt
      go_wp2_with fail
      go_region_with (first
        | (go_at_call 12; refine (hR.out _).mono ?_; rintro e w2 ⟨rfl, hG2⟩; have ES2 := ES.grown (gr_trans (gr_drew (gr_refl wr none)) hG2) (by simp); obtain ⟨m0, m1, m2, m3, m4, m5, m6, m7, m8, m9, m10, m11⟩ := cells12 ES2; have fr2 := ES2.free)
        | (go_at_call 14; refine (hW.out _).mono ?_; rintro e w3 ⟨rfl, hG3⟩; have ES3 := ES2.grown hG3 (by simp); obtain ⟨n0, n1, n2, n3, n4, n5, n6, n7, n8, n9, n10, n11⟩ := cells12 ES3; have fr3 := ES3.free))
      all_goals
        have gW : wr.grownBy w3 none := gr_trans (gr_trans (gr_drew (gr_refl wr none)) hG2) hG3
        have hN : Lg w q c (k + 1) ((((((((((((w3.setCell ⟨q, 0, none⟩ (.int .u64 b0)).setCell ⟨q, 1, none⟩ (.int .u64 b1)).setCell ⟨q, 2, none⟩ (.int .u64 b2)).setCell ⟨q, 3, none⟩ (.int .u64 b3)).setCell ⟨q, 4, none⟩ (.int .u64 b4)).setCell ⟨q, 5, none⟩ (.int .u64 b5)).setCell ⟨q, 6, none⟩ (.int .u64 b6)).setCell ⟨q, 7, none⟩ (.int .u64 b7)).setCell ⟨q, 8, none⟩ (.int .u64 b8)).setCell ⟨q, 9, none⟩ (.int .u64 b9)).setCell ⟨q, 10, none⟩ (.int .u64 b10)).setCell ⟨q, 11, none⟩ (.int .u64 b11)) := by
          refine ⟨?_, ?_, ?_⟩
          · rw [EB.out]; exact put12 ES3 rfl _ _ _ _ _ _ _ _ _ _ _ _
          · exact oth12 (HL.out.zer.grown gW (by simp)) (by omega) _ _ _ _ _ _ _ _ _ _ _ _
          · exact gr12 (gr_trans HL.out.gr gW) HQ.out _ _ _ _ _ _ _ _ _ _ _ _
        have HN' := Lib.hid hN
        clear hN
        generalize ((((((((((((w3.setCell ⟨q, 0, none⟩ (.int .u64 b0)).setCell ⟨q, 1, none⟩ (.int .u64 b1)).setCell ⟨q, 2, none⟩ (.int .u64 b2)).setCell ⟨q, 3, none⟩ (.int .u64 b3)).setCell ⟨q, 4, none⟩ (.int .u64 b4)).setCell ⟨q, 5, none⟩ (.int .u64 b5)).setCell ⟨q, 6, none⟩ (.int .u64 b6)).setCell ⟨q, 7, none⟩ (.int .u64 b7)).setCell ⟨q, 8, none⟩ (.int .u64 b8)).setCell ⟨q, 9, none⟩ (.int .u64 b9)).setCell ⟨q, 10, none⟩ (.int .u64 b10)).setCell ⟨q, 11, none⟩ (.int .u64 b11)) = X at *
        go_wp2_with fail
        go_roundw
        case rel => exact ⟨k + 1, by omega, by go_num, HN'.out⟩
        case measure => simp [intOf]; omega
    · obtain rfl : k = 5 := by omega
      have HG := Lib.hid (five_good HC.out)
      have HL := Lib.hid hL
      obtain ⟨d0, d1, d2, d3, d4, d5, d6, d7, d8, d9, d10, d11, ed⟩ := twelve HG.out.1
      have ES : Row wr q 24 (lC [d0, d1, d2, d3, d4, d5, d6, d7, d8, d9, d10, d11]) := by rw [← ed]; exact hL.row
      obtain ⟨k0, k1, k2, k3, k4, k5, k6, k7, k8, k9, k10, k11⟩ := cells12 ES
      have fr := ES.free
      have h8 : B64 d8 := by have := HG.out.get 8; rw [ed] at this; exact this
      have h9 : B64 d9 := by have := HG.out.get 9; rw [ed] at this; exact this
      have hg := HG.out
      rw [ed] at hg
      have EL := Lib.hid (show legalV c = lateV [d0, d1, d2, d3, d4, d5, d6, d7, d8, d9, d10, d11] by rw [legalV, ed])
      have hW := Lib.hid (fun W => Write_c [d0, d1, d2, d3, d4, d5, d6, d7, bits .and .u64 d8 34, 0, d10, d11] ((hg.put 8 (and_bd h8 (lit_bd 34 (by decide)))).put 9 (by decide)) 384 d9 (by decide) h9 W)
      rw [vC_12] at hW
      have hN := (legal_good HC.out)
      obtain ⟨b0, b1, b2, b3, b4, b5, b6, b7, b8, b9, b10, b11, eb⟩ := twelve hN.1
      have EB := Lib.hid eb
      rw [show writeV [d0, d1, d2, d3, d4, d5, d6, d7, bits .and .u64 d8 34, 0, d10, d11] 384 d9 = [b0, b1, b2, b3, b4, b5, b6, b7, b8, b9, b10, b11] from EL.out.symm.trans eb, vC_12] at hW
      unfold B64 at h8 h9
      clear hL ed eb hg hN
      go_wp2_with fail
      refine (hW.out _).mono ?_
      rintro e w2 ⟨rfl, hG⟩
      have ZZ : Row w2 (q + 1) 24 zC := Row.grown ((HL.out.zer.other (by simp) _).other (by simp) _) hG (by simp)
      have GG : w.grownBy w2 none := gr_trans (gr_row (gr_set (gr_set (gr_none HL.out.gr _) _) _) HQ.out) hG
      obtain ⟨z0, z1, z2, z3, z4, z5, z6, z7, z8, z9, z10, z11⟩ := cells12 ZZ
      have zf := ZZ.free
      clear hG k0 k1 k2 k3 k4 k5 k6 k7 k8 k9 k10 k11 fr
      go_wp2_with fail
      refine ret_C rfl rfl rfl (c := [b0, b1, b2, b3, b4, b5, b6, b7, b8, b9, b10, b11]) (put12 ZZ rfl _ _ _ _ _ _ _ _ _ _ _ _) rfl ⟨by rw [EB.out], gr12 GG (Nat.le_succ_of_le HQ.out) _ _ _ _ _ _ _ _ _ _ _ _⟩
end Go.Proofs.Ytlbhkmigbnhngaa
