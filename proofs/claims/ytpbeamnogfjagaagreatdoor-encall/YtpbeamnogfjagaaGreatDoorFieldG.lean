/-
  What scatter and Lay of package field answer: contracts over the program's translation.
  Conditions: the arguments are numbers of their kinds; spans stand in a row.
-/
import Derived.Test.YtpbeamnogfjagaaGreatDoorFieldI
namespace Go.Proofs.YtpbeamnogfjagaaGreatDoor
open Go Go.RowKit F W M
set_option linter.unusedVariables false

set_option maxHeartbeats 400000 in
theorem scatter_c (n : Int) (hn : -9223372036854775808 ≤ n ∧ n ≤ 9223372036854775807) (z g : Nat) (L : Spans) (hF : Fits z L) (hL : L.length ≤ 9) (w : World) (h : Row w g 105 (sv L)) :
    Calls Tryz.prog 98 #[.int .i64 n, .int .i64 z, .slice (some ⟨g, 0, none⟩) L.length L.length] w fun e w' => e = .returned (.int .u32 (sca (low n) z L : Nat)) ∧ w.grownBy w' none := by
  obtain ⟨hF1, hF2, hF3⟩ := hF
  have hz := ends_le L z
  have hlow : low n < 4294967296 := by unfold low; omega
  have hw : IntKind.u32.wrap n = (low n : Nat) := by rw [IntKind.wrap_u32']; unfold low; omega
  have hgl := sca_lt (low n) L (fun p hp => (hF1 p hp).2) z
  rw [show (2 : Nat) ^ 32 = 4294967296 from rfl] at hgl
  go_enter Tryz.func98, Tryz.ntmps98
  go_wp2_with fail
  go_loopw [7, 8, 14] (fun y a i wr => ∃ (k N A : Nat), k ≤ L.length ∧ i = .int .i64 k ∧ y = .int .u32 N ∧ a = .int .i64 A ∧ N ||| sca (low n) A (L.drop k) = sca (low n) z L ∧ ends A (L.drop k) = ends z L ∧ w.grownBy wr none) (fun _ _ i _ => L.length - (intOf i).toNat)
  case atStart => exact ⟨0, 0, z, Nat.zero_le _, rfl, rfl, rfl, by simp, by simp, gr_refl _ _⟩
  case round =>
    obtain ⟨k, N, A, hk, rfl, rfl, rfl, hN, hA, hG⟩ := hrel
    by_cases hlt : k < L.length
    · obtain ⟨l, m, M, hd⟩ : ∃ l m M, L.drop k = (l, m) :: M := ⟨L[k].1, L[k].2, L.drop (k + 1), List.drop_eq_getElem_cons hlt⟩
      have hR := h.grown hG (by simp)
      have c1 := hR.cell (k * 2)
      have c2 := hR.cell (k * 2 + 1)
      rw [(sv_at hd).1] at c1
      rw [(sv_at hd).2] at c2
      have hb := hF1 (l, m) (drop_more hd).2
      simp only at hb
      have hN1 : N ≤ sca (low n) z L := by rw [← hN]; exact Nat.left_le_or
      rw [hd, ends] at hA
      rw [hd, sca] at hN
      have hA1 := ends_le M (A + m)
      have HO := Lib.hid (or_up32 N (get (low n) A m) l m (by omega) (get_lt _ _ _) (by omega))
      have hA2 : A ≤ 63 := by omega
      have hm9 : m ≤ 32 := by omega
      have hl9 : l ≤ 32 := by omega
      have HA := Lib.hid hA
      have HN := Lib.hid hN
      have HB := Lib.hid hb
      have HD := Lib.hid hd
      clear hA hN hb hA1 hgl hd
      have HGet : ∀ W : World, Calls Tryz.prog 76 #[.int .u32 (low n : Nat), .int .i64 A, .int .i64 m] W fun e w' => e = .returned (.int .u32 (get (low n) A m : Nat)) ∧ ∃ d, w' = W.drewN d := fun W => by
        have := Get_c (low n) A m hlow (by omega) (by omega) W
        rwa [gotV_nat (low n) A m HB.out.1] at this
      have HGET := Lib.hid HGet
      clear HGet
      go_wp2_with fail
      go_quiet ((go_at_call 76; exact Calls.quiet_of (HGET.out _)))
      go_wp2_with fail
      go_roundw
      case rel =>
        have hD := drop_more HD.out
        refine ⟨k + 1, N ||| get (low n) A m <<< l, A + m, by omega, by go_num, ?_, by go_num, ?_, ?_, gr_drewN (gr_alloc hG _) _⟩
        · rw [← HO.out.1, IntKind.wrap_u32']
        · rw [hD.1, Nat.or_assoc]; exact HN.out
        · rw [hD.1]; exact HA.out
      case measure => simp [intOf]; omega
    · obtain rfl : k = L.length := by omega
      rw [List.drop_length, sca, Nat.or_zero] at hN
      rw [List.drop_length, ends] at hA
      subst hN hA
      go_wp2_with fail
      go_ret
      exact ⟨rfl, hG⟩

set_option maxHeartbeats 400000 in
theorem Lay_c (n : Int) (f : Int) (hn : -9223372036854775808 ≤ n ∧ n ≤ 9223372036854775807) (hf : -9223372036854775808 ≤ f ∧ f ≤ 9223372036854775807) (w : World) :
    Calls Tryz.prog 74 #[.int .i64 n, .int .i64 f] w fun e w' => e = .returned (.tuple #[.int .u32 (layV n f : Nat), .bool (layB n f)]) ∧ w.grownBy w' none := by
  by_cases h : 1 ≤ f ∧ f ≤ 5
  · have hF := fits f h
    have hlen : (1 : Int) ≤ ((spn f).length : Int) := by
      rcases (show f = 1 ∨ f = 2 ∨ f = 3 ∨ f = 4 ∨ f = 5 by omega) with rfl | rfl | rfl | rfl | rfl <;> decide
    have hne : spn f ≠ [] := by intro e; rw [e] at hlen; simp at hlen
    have hwl : wordV n f < 4294967296 := sca_lt (low n) _ (fun p hp => (hF.1.1 p hp).2) _
    have hB : layB n f = decide (immV (wordV n f) f = n) := by rw [layB]; simp [hne]
    by_cases hi : immV (wordV n f) f = n
    · have eB : layB n f = true := by rw [hB]; simpa using hi
      have eV : layV n f = wordV n f := by rw [layV, if_pos eB]
      rw [eB, eV]
      have HI := Lib.hid hi
      clear hB eB eV hi
      go_enter Tryz.func74, Tryz.ntmps74
      go_wp2_with fail
      refine (layout_c f h _).mono ?_
      rintro e w1 ⟨rfl, hR, hG⟩
      go_wp2_with fail
      refine (scatter_c n hn _ _ (spn f) hF.1 hF.2 _ hR).mono ?_
      rintro e w2 ⟨rfl, hG2⟩
      go_wp2_with fail
      refine (gather_c (wordV n f) _ _ (spn f) hwl hF.1 hF.2 _ (hR.grown hG2 (by simp))).mono ?_
      rintro e w3 ⟨rfl, hG3⟩
      rw [show sgn (ends (zer f) (spn f)) (gat (wordV n f) (zer f) (spn f)) = n from HI.out]
      go_wp2_with fail
      go_ret2
      exact ⟨rfl, gr_trans (gr_trans hG hG2) hG3⟩
    · have eB : layB n f = false := by rw [hB]; simpa using hi
      have eV : layV n f = 0 := by rw [layV, eB]; rfl
      rw [eB, eV]
      clear hB eB eV
      go_enter Tryz.func74, Tryz.ntmps74
      go_wp2_with fail
      refine (layout_c f h _).mono ?_
      rintro e w1 ⟨rfl, hR, hG⟩
      go_wp2_with fail
      refine (scatter_c n hn _ _ (spn f) hF.1 hF.2 _ hR).mono ?_
      rintro e w2 ⟨rfl, hG2⟩
      go_wp2_with fail
      refine (gather_c (wordV n f) _ _ (spn f) hwl hF.1 hF.2 _ (hR.grown hG2 (by simp))).mono ?_
      rintro e w3 ⟨rfl, hG3⟩
      rw [show sgn (ends (zer f) (spn f)) (gat (wordV n f) (zer f) (spn f)) = immV (wordV n f) f from rfl]
      generalize immV (wordV n f) f = q at *
      go_wp2_with fail
      go_ret2
      exact ⟨rfl, gr_trans (gr_trans hG hG2) hG3⟩
  · have eB : layB n f = false := by rw [layB, (no_fmt f h).2]; simp
    have eV : layV n f = 0 := by rw [layV, eB]; rfl
    rw [eB, eV]
    go_enter Tryz.func74, Tryz.ntmps74
    go_wp2_with fail
    refine (layout_no f (by omega) _).mono ?_
    rintro e w1 ⟨rfl, rfl⟩
    go_wp2_with fail
    go_ret2
    exact ⟨rfl, gr_refl _ _⟩
end Go.Proofs.YtpbeamnogfjagaaGreatDoor
