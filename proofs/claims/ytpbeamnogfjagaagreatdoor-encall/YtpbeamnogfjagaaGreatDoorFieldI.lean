/-
  What gather and Imm of package field answer: contracts over the program's translation.
  Conditions: the arguments are numbers of their kinds; spans stand in a row.
-/
import Derived.Test.YtpbeamnogfjagaaGreatDoorFieldC
namespace Go.Proofs.YtpbeamnogfjagaaGreatDoor
open Go Go.RowKit F W M
set_option linter.unusedVariables false

/-- Spans that the program may be asked of. -/
def Fits (z : Nat) (L : Spans) : Prop := (∀ p ∈ L, 1 ≤ p.2 ∧ p.1 + p.2 ≤ 32) ∧ 1 ≤ ends z L ∧ ends z L ≤ 63
theorem sv_at {L : Spans} {k l m : Nat} {M : Spans} (hd : L.drop k = (l, m) :: M) : (sv L)[k * 2]? = some (.int .i64 (l : Nat)) ∧ (sv L)[k * 2 + 1]? = some (.int .i64 (m : Nat)) := by
  have hk : k < L.length := by
    apply Nat.lt_of_not_le
    intro hle
    rw [List.drop_eq_nil_of_le hle] at hd
    cases hd
  have he : L[k] = (l, m) := by
    rw [List.drop_eq_getElem_cons hk] at hd
    injection hd
  have := sv_get L k hk
  rw [he] at this
  rwa [Nat.mul_comm k 2]
theorem drop_more {L : Spans} {k : Nat} {p : Nat × Nat} {M : Spans} (hd : L.drop k = p :: M) : L.drop (k + 1) = M ∧ p ∈ L := by
  have hk : k < L.length := by
    apply Nat.lt_of_not_le
    intro hle
    rw [List.drop_eq_nil_of_le hle] at hd
    cases hd
  rw [List.drop_eq_getElem_cons hk] at hd
  injection hd with h1 h2
  exact ⟨h2, h1 ▸ List.getElem_mem hk⟩
theorem gotV_nat (x l m : Nat) (hm : 1 ≤ m) : gotV x (l : Int) (m : Int) = get x l m := by
  rw [gotV, if_neg (by omega), Int.toNat_natCast, Int.toNat_natCast]

set_option maxHeartbeats 400000 in
theorem gather_c (x z g : Nat) (L : Spans) (hx : x < 4294967296) (hF : Fits z L) (hL : L.length ≤ 9) (w : World) (h : Row w g 105 (sv L)) :
    Calls Tryz.prog 99 #[.int .u32 x, .int .i64 z, .slice (some ⟨g, 0, none⟩) L.length L.length] w fun e w' => e = .returned (.int .i64 (sgn (ends z L) (gat x z L))) ∧ w.grownBy w' none := by
  obtain ⟨hF1, hF2, hF3⟩ := hF
  have hz := ends_le L z
  have hgl := gat_lt x L z
  have hpw : (2 : Nat) ^ ends z L ≤ 2 ^ 63 := Nat.pow_le_pow_right (by omega) hF3
  rw [show (2 : Nat) ^ 63 = 9223372036854775808 from rfl] at hpw
  have HS := Lib.hid (sext_sgn (gat x z L) (ends z L) hF2 hF3 hgl)
  go_enter Tryz.func99, Tryz.ntmps99
  go_wp2_with fail
  go_loopw [7, 8, 14] (fun n a i wr => ∃ (k N A : Nat), k ≤ L.length ∧ i = .int .i64 k ∧ n = .int .u64 N ∧ a = .int .i64 A ∧ N ||| gat x A (L.drop k) = gat x z L ∧ ends A (L.drop k) = ends z L ∧ w.grownBy wr none) (fun _ _ i _ => L.length - (intOf i).toNat)
  case atStart => exact ⟨0, 0, z, Nat.zero_le _, rfl, rfl, rfl, by simp, by simp, gr_refl _ _⟩
  case round =>
    obtain ⟨k, N, A, hk, rfl, rfl, rfl, hN, hA, hG⟩ := hrel
    by_cases hlt : k < L.length
    · obtain ⟨l, m, M, hd⟩ : ∃ l m M, L.drop k = (l, m) :: M := ⟨L[k].1, L[k].2, L.drop (k + 1), List.drop_eq_getElem_cons hlt⟩
      have hR := h.grown hG (by simp)
      have c1 := hR.cell (k * 2)
      have c2 := hR.cell (k * 2 + 1)
      rw [(sv_at hd).1] at c1
      rw [(sv_at hd).2] at c2
      have hb := hF1 (l, m) (drop_more hd).2
      simp only at hb
      have hN1 : N ≤ gat x z L := by rw [← hN]; exact Nat.left_le_or
      rw [hd, ends] at hA
      rw [hd, gat] at hN
      have hA1 := ends_le M (A + m)
      have HO := Lib.hid (or_up N (get x l m) A m (by omega) (get_lt _ _ _) (by omega))
      have hA2 : A ≤ 63 := by omega
      have hm9 : m ≤ 32 := by omega
      have hl9 : l ≤ 32 := by omega
      have HA := Lib.hid hA
      have HN := Lib.hid hN
      have HB := Lib.hid hb
      have HD := Lib.hid hd
      clear hA hN hb hA1 hgl hpw hd
      go_wp2_with fail
      refine (Get_c x l m hx (by omega) (by omega) _).mono ?_
      rintro e w' ⟨rfl, n, rfl⟩
      rw [gotV_nat x l m HB.out.1]
      go_wp2_with fail
      go_roundw
      case rel =>
        have hg := get_le x l m
        have hD := drop_more HD.out
        refine ⟨k + 1, N ||| get x l m <<< A, A + m, by omega, by go_num, ?_, by go_num, ?_, ?_, gr_drewN (gr_alloc hG _) _⟩
        · rw [show IntKind.u64.wrap ((get x l m : Nat) : Int) = (get x l m : Nat) from by rw [IntKind.wrap_u64]; omega, HO.out.1]
        · rw [hD.1, Nat.or_assoc]; exact HN.out
        · rw [hD.1]; exact HA.out
      case measure => simp [intOf]; omega
    · obtain rfl : k = L.length := by omega
      rw [List.drop_length, gat, Nat.or_zero] at hN
      rw [List.drop_length, ends] at hA
      subst hN hA
      go_wp2_with fail
      refine (Sext_c _ _ (by omega) (by omega) _).mono ?_
      rintro e w' ⟨rfl, rfl⟩
      go_wp2_with fail
      go_ret
      exact ⟨ret_int HS.out, hG⟩

set_option maxHeartbeats 400000 in
theorem gather_no (x : Nat) (hx : x < 4294967296) (w : World) :
    Calls Tryz.prog 99 #[.int .u32 x, .int .i64 0, .slice none 0 0] w fun e w' => e = .returned (.int .i64 0) ∧ w = w' := by
  go_enter Tryz.func99, Tryz.ntmps99
  go_wp2_with fail
  go_loop [7, 8, 14] (fun n a i => n = .int .u64 0 ∧ a = .int .i64 0 ∧ i = .int .i64 0) (fun _ _ i => 0)
  case atStart => exact ⟨rfl, rfl, rfl⟩
  case round =>
    obtain ⟨rfl, rfl, rfl⟩ := hrel
    go_wp2_with fail
    refine (Sext_c 0 0 (by decide) (by decide) _).mono ?_
    rintro e w' ⟨rfl, rfl⟩
    rw [show sextV 0 0 = 0 from by decide +kernel]
    go_wp2_with fail
    go_ret
    exact ⟨rfl, rfl⟩

theorem fits (f : Int) (h : 1 ≤ f ∧ f ≤ 5) : Fits (zer f) (spn f) ∧ (spn f).length ≤ 9 := by
  rcases (show f = 1 ∨ f = 2 ∨ f = 3 ∨ f = 4 ∨ f = 5 by omega) with rfl | rfl | rfl | rfl | rfl
  all_goals
    refine ⟨⟨?_, ?_, ?_⟩, ?_⟩ <;> decide

theorem no_fmt (f : Int) (h : ¬ (1 ≤ f ∧ f ≤ 5)) : zer f = 0 ∧ spn f = [] := by
  constructor
  · rw [zer, if_neg (by omega), if_neg (by omega)]
  · rw [spn, if_neg (by omega), if_neg (by omega), if_neg (by omega), if_neg (by omega), if_neg (by omega)]

set_option maxHeartbeats 400000 in
theorem Imm_c (x : Nat) (f : Int) (hx : x < 4294967296) (hf : -9223372036854775808 ≤ f ∧ f ≤ 9223372036854775807) (w : World) :
    Calls Tryz.prog 103 #[.int .u32 x, .int .i64 f] w fun e w' => e = .returned (.int .i64 (immV x f)) ∧ w.grownBy w' none := by
  by_cases h : 1 ≤ f ∧ f ≤ 5
  · have hF := fits f h
    go_enter Tryz.func103, Tryz.ntmps103
    go_wp2_with fail
    refine (layout_c f h _).mono ?_
    rintro e w1 ⟨rfl, hR, hG⟩
    go_wp2_with fail
    refine (gather_c x _ _ (spn f) hx hF.1 hF.2 _ hR).mono ?_
    rintro e w2 ⟨rfl, hG2⟩
    go_wp2_with fail
    go_ret
    exact ⟨rfl, gr_trans hG hG2⟩
  · have e0 : immV x f = 0 := by rw [immV, (no_fmt f h).1, (no_fmt f h).2]; rfl
    rw [e0]
    go_enter Tryz.func103, Tryz.ntmps103
    go_wp2_with fail
    refine (layout_no f (by omega) _).mono ?_
    rintro e w1 ⟨rfl, rfl⟩
    go_wp2_with fail
    refine (gather_no x hx _).mono ?_
    rintro e w2 ⟨rfl, rfl⟩
    go_wp2_with fail
    go_ret
    exact ⟨rfl, gr_refl _ _⟩

end Go.Proofs.YtpbeamnogfjagaaGreatDoor
