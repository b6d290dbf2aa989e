/-
  A row of reservations of package amo, on: what a store ends: a contract over the program's translation.
  Conditions: the arguments are numbers of their kinds; the row stands behind its pointer.
-/
import Derived.Test.YtaanmebebapbpaaDoorAmoP
namespace Go.Proofs.YtaanmebebapbpaaDoor
open Go Go.RowKit W M D A
set_option linter.unusedVariables false

theorem eight (k : Nat) (hk : k < 8) : k = 0 ∨ k = 1 ∨ k = 2 ∨ k = 3 ∨ k = 4 ∨ k = 5 ∨ k = 6 ∨ k = 7 := by omega
theorem pl_at (s : St) (k : Nat) (hk : k < 8) (w : World) : (Instr.index 62 (.agg #[.int .u64 (atS s 0), .bool (isS s 0), .int .u64 (atS s 1), .bool (isS s 1), .int .u64 (atS s 2), .bool (isS s 2), .int .u64 (atS s 3), .bool (isS s 3),
    .int .u64 (atS s 4), .bool (isS s 4), .int .u64 (atS s 5), .bool (isS s 5), .int .u64 (atS s 6), .bool (isS s 6), .int .u64 (atS s 7), .bool (isS s 7)]) (.int .i64 k)).run Tryd.prog w = .ok (.agg #[.int .u64 (atS s k), .bool (isS s k)]) w := by
  rcases eight k hk with rfl | rfl | rfl | rfl | rfl | rfl | rfl | rfl
  all_goals kernel_rfl
set_option maxHeartbeats 1000000 in
theorem Stored_c (p : Nat) (s : St) (h a n : Int) (hh : I64 h) (ha : B64 a) (hn : I64 n) (w : World) (hR : RAt w p s) :
    Calls Tryd.prog 21 #[.pointer (some ⟨p, 0, none⟩), .int .i64 h, .int .u64 a, .int .i64 n] w fun e w' => e = .returned (.tuple #[]) ∧ RAt w' p (storedS s h a n) ∧ w.grownBy w' (some p) := by
  have HH := Lib.hid (fun W => isHart_c h hh W)
  unfold storedS
  by_cases e : isH h = true
  · by_cases h1 : 1 ≤ n
    · rw [if_pos ⟨e, h1⟩]
      rw [e] at HH
      have hr := (isH_iff h).1 e
      clear e
      obtain ⟨m, rfl⟩ : ∃ m : Nat, n = m := ⟨n.toNat, by omega⟩
      have d1 : decide ((m : Int) < 1) = false := by simpa using h1
      have g := hR.good
      have hc := fun i (hi : i < 8) => hR.at hi
      have hs := fun i (hi : i < 8) => hR.is hi
      have a0 := hc 0 (by omega)
      have a1 := hc 1 (by omega)
      have a2 := hc 2 (by omega)
      have a3 := hc 3 (by omega)
      have a4 := hc 4 (by omega)
      have a5 := hc 5 (by omega)
      have a6 := hc 6 (by omega)
      have a7 := hc 7 (by omega)
      have b0 := hs 0 (by omega)
      have b1 := hs 1 (by omega)
      have b2 := hs 2 (by omega)
      have b3 := hs 3 (by omega)
      have b4 := hs 4 (by omega)
      have b5 := hs 5 (by omega)
      have b6 := hs 6 (by omega)
      have b7 := hs 7 (by omega)
      simp only [Nat.zero_mul, Nat.reduceMul, Nat.reduceAdd] at a0 a1 a2 a3 a4 a5 a6 a7 b0 b1 b2 b3 b4 b5 b6 b7
      clear hc hs
      go_enter Tryd.func21, Tryd.ntmps21
      go_wp2_with fail
      refine (HH.out _).mono ?_
      rintro e w' ⟨rfl, rfl⟩
      go_wp2_with fail
      clear a0 a1 a2 a3 a4 a5 a6 a7 b0 b1 b2 b3 b4 b5 b6 b7
      go_loopw [21] (fun i wr => ∃ k : Nat, k ≤ 8 ∧ i = .int .i64 k ∧ RAt wr p (storS k s h a m) ∧ w.grownBy wr (some p)) (fun i _ => 8 - (intOf i).toNat)
      case atStart => exact ⟨0, by omega, rfl, hR, gr_refl _ _⟩
      case round =>
        obtain ⟨k, hk, rfl, hRk, hGk⟩ := hrel
        by_cases hlt : k < 8
        · have hI := pl_at s k hlt
          have HB := Lib.hid (g.bd k)
          have HM := Lib.hid (fun W => meet_c (atS s k) a m (g.bd k) ha (by unfold B64; omega) W)
          have HE : Hid (endS s h a m k = ((decide ((k : Int) ≠ h) && isS s k) && meetV (atS s k) a m)) := Lib.hid rfl
          have HS : Hid (storS (k + 1) s h a m = if endS s h a m k = true then (storS k s h a m).set k (0, false) else storS k s h a m) := Lib.hid rfl
          have c0 := hRk.at hlt
          have c1 := hRk.is hlt
          have f0 := hRk.row.free (k * 2)
          have f1 := hRk.row.free (k * 2 + 1)
          generalize atS s k = b at *
          generalize isS s k = t at *
          have l1 := hRk.row.lt
          have RN := Lib.hid (fun (v : Bool) => hRk.kept (gr_alloc (gr_refl wr none) (.cells #[.int .u64 b, .bool v] 61)))
          have GN := Lib.hid (fun (v : Bool) => gr_alloc hGk (.cells #[.int .u64 b, .bool v] 61))
          have RP := Lib.hid (fun (v : Bool) => (hRk.put (b := 0) (t := false) hlt zero_bd rfl (fun _ => rfl)).kept (gr_alloc (gr_refl _ none) (.cells #[.int .u64 b, .bool v] 61)))
          have GP := Lib.hid (fun (v : Bool) => gr_alloc (gr_set (i := k * 2 + 1) (gr_set (i := k * 2) hGk (.int .u64 0)) (.bool false)) (.cells #[.int .u64 b, .bool v] 61))
          by_cases hkh : (k : Int) = h
          · have HZ : Hid (storS (k + 1) s h a m = storS k s h a m) := Lib.hid (by rw [HS.out, HE.out, if_neg (by simp [hkh])])
            obtain rfl := hkh.symm
            clear HE HS c0 c1 f0 f1
            go_wp2_with fail
            go_roundw
            case rel => exact ⟨k + 1, by omega, by go_num, by rw [HZ.out]; exact RN.out _, GN.out _⟩
            case measure => simp [intOf]; omega
          · have dk : ((k : Int) != h) = true := by simpa using hkh
            cases t
            · have HZ : Hid (storS (k + 1) s h a m = storS k s h a m) := Lib.hid (by rw [HS.out, HE.out, if_neg (by simp)])
              clear HE HS c0 c1 f0 f1
              go_wp2_with fail
              go_roundw
              case rel => exact ⟨k + 1, by omega, by go_num, by rw [HZ.out]; exact RN.out _, GN.out _⟩
              case measure => simp [intOf]; omega
            · generalize meetV b a m = z at *
              cases z
              · have HZ : Hid (storS (k + 1) s h a m = storS k s h a m) := Lib.hid (by rw [HS.out, HE.out, if_neg (by simp)])
                clear HE HS c0 c1 f0 f1
                go_wp2_with fail
                refine (HM.out _).mono ?_
                rintro e w' ⟨rfl, rfl⟩
                go_wp2_with fail
                go_roundw
                case rel => exact ⟨k + 1, by omega, by go_num, by rw [HZ.out]; exact RN.out _, GN.out _⟩
                case measure => simp [intOf]; omega
              · have HZ : Hid (storS (k + 1) s h a m = (storS k s h a m).set k (0, false)) := Lib.hid (by rw [HS.out, HE.out, if_pos (by simp [hkh])])
                clear HE HS
                go_wp2_with fail
                refine (HM.out _).mono ?_
                rintro e w' ⟨rfl, rfl⟩
                go_wp2_with fail
                go_roundw
                case rel => exact ⟨k + 1, by omega, by go_num, by rw [HZ.out]; exact RP.out _, GP.out _⟩
                case measure => simp [intOf]; omega
        · obtain rfl : k = 8 := by omega
          go_wp2_with fail
          first | go_end0 | refine bodyPost_ret (results_none rfl _ _ _) rfl ?_
          exact ⟨rfl, hRk, hGk⟩
    · rw [if_neg (fun x => h1 x.2)]
      rw [e] at HH
      have d1 : n < 1 := by omega
      clear e h1
      go_enter Tryd.func21, Tryd.ntmps21
      go_wp2_with fail
      refine (HH.out _).mono ?_
      rintro e w' ⟨rfl, rfl⟩
      go_wp2_with fail
      first | go_end0 | refine bodyPost_ret (results_none rfl _ _ _) rfl ?_
      exact ⟨rfl, hR, gr_refl _ _⟩
  · rw [if_neg (fun x => e x.1)]
    have e : isH h = false := by simpa using e
    rw [e] at HH
    go_enter Tryd.func21, Tryd.ntmps21
    go_wp2_with fail
    refine (HH.out _).mono ?_
    rintro e w' ⟨rfl, rfl⟩
    go_wp2_with fail
    first | go_end0 | refine bodyPost_ret (results_none rfl _ _ _) rfl ?_
    exact ⟨rfl, hR, gr_refl _ _⟩
end Go.Proofs.YtaanmebebapbpaaDoor
