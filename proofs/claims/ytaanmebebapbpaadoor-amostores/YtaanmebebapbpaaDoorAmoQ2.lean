/-
  The document's own row of reservations, on: a store, byte by byte; whether two rows are the same: contracts over the translation.
  Conditions: the arguments are numbers of their kinds; the row stands behind its pointer.
-/
import Derived.Test.YtaanmebebapbpaaDoorAmoQ
namespace Go.Proofs.YtaanmebebapbpaaDoor
open Go Go.RowKit W M D A
set_option linter.unusedVariables false
set_option linter.unusedSimpArgs false

/-- Whether one of the first j bytes from a on is in the block b. -/
def hitN (b a : Int) : Nat → Bool
  | 0 => false
  | j + 1 => hitN b a j || decide (b = blk (IntKind.u64.wrap (a + j)))
/-- What stands of r behind the first j bytes, and behind one more for the harts below k. -/
def After (r : St) (h a : Int) (j k : Nat) (r' : St) : Prop :=
  ∀ i, i < 8 → atS r' i = atS r i ∧ isS r' i = (isS r i && !(decide ((i : Int) ≠ h) && hitN (atS r i) a (if i < k then j + 1 else j)))
theorem after_0 (r : St) (h a : Int) : After r h a 0 0 r := fun i hi => by
  rw [if_neg (by omega)]; simp [hitN]
theorem After.next {r r' : St} {h a : Int} {j : Nat} (H : After r h a j 8 r') : After r h a (j + 1) 0 r' := fun i hi => by
  have := H i hi
  rw [if_pos hi] at this
  rw [if_neg (by omega)]
  exact this
theorem After.skip {r r' : St} {h a : Int} {j k : Nat} (hk : k < 8) (H : After r h a j k r')
    (hn : ((decide ((k : Int) ≠ h) && isS r' k) && decide (atS r k = blk (IntKind.u64.wrap (a + j)))) = false) : After r h a j (k + 1) r' := fun i hi => by
  have h1 := H i hi
  by_cases e : i = k
  · subst e
    rw [if_neg (by omega)] at h1
    rw [if_pos (by omega), hitN]
    refine ⟨h1.1, ?_⟩
    rw [h1.2] at hn ⊢
    revert hn
    generalize isS r i = t
    generalize hitN (atS r i) a j = x
    generalize decide (atS r i = blk (IntKind.u64.wrap (a + j))) = y
    generalize decide ((i : Int) ≠ h) = z
    cases t <;> cases x <;> cases y <;> cases z <;> simp
  · rw [show (if i < k + 1 then j + 1 else j) = if i < k then j + 1 else j from by split <;> split <;> omega]
    exact h1
theorem After.hit {r r' : St} {h a : Int} {j k : Nat} (hk : k < 8) (hl : r'.length = 8) (H : After r h a j k r') (hne : (k : Int) ≠ h) (hx : atS r k = blk (IntKind.u64.wrap (a + j))) :
    After r h a j (k + 1) (r'.set k (atS r' k, false)) := fun i hi => by
  have h1 := H i hi
  rw [at_set _ _ _ _ _ (by omega), is_set _ _ _ _ _ (by omega)]
  by_cases e : i = k
  · subst e
    rw [if_pos rfl, if_pos rfl, if_pos (by omega), hitN]
    exact ⟨h1.1, by simp [hne, hx]⟩
  · rw [if_neg e, if_neg e, show (if i < k + 1 then j + 1 else j) = if i < k then j + 1 else j from by split <;> split <;> omega]
    exact h1
set_option maxHeartbeats 1000000 in
theorem rStored_c (p : Nat) (r : St) (h a n : Int) (hh : I64 h) (ha : B64 a) (hn : -9223372036854775808 ≤ n ∧ n ≤ 64) (e : isH h = true) (w : World) (hR : QAt w p r) :
    Calls Tryd.prog 22 #[.pointer (some ⟨p, 0, none⟩), .int .i64 h, .int .u64 a, .int .i64 n] w fun e w' => e = .returned (.tuple #[]) ∧ (∃ r', QAt w' p r' ∧ After r h a n.toNat 0 r') ∧ w.grownBy w' (some p) := by
  have HH := Lib.hid (fun W => known_c h hh W)
  rw [e] at HH
  have hr := (isH_iff h).1 e
  clear e
  unfold B64 at ha
  go_enter Tryd.func22, Tryd.ntmps22
  go_wp2_with fail
  refine (HH.out _).mono ?_
  rintro e w' ⟨rfl, rfl⟩
  go_wp2_with fail
  go_loopw [8] (fun i wr => ∃ (j : Nat) (r' : St), (j : Int) ≤ max n 0 ∧ i = .int .i64 j ∧ QAt wr p r' ∧ After r h a j 0 r' ∧ w.grownBy wr (some p)) (fun i _ => n.toNat - (intOf i).toNat)
  case atStart => exact ⟨0, r, by omega, rfl, hR, after_0 r h a, gr_refl _ _⟩
  case round =>
    obtain ⟨j, r1, hj, rfl, hQ1, hA1, hG1⟩ := hrel
    by_cases hlt : (j : Int) < n
    · have hj64 : j < 64 := by omega
      have hx : IntKind.u64.wrap (a + j) = IntKind.u64.wrap (a + j) := rfl
      obtain ⟨x, hxd⟩ : ∃ x, x = IntKind.u64.wrap (a + j) := ⟨_, rfl⟩
      have hxb : B64 x := by rw [hxd]; exact u64_bd _
      have hb : IntKind.u64.wrap (x - x % 8) = blk x := by unfold B64 at hxb; rw [u64_eq, blk]; omega
      have HXD := Lib.hid hxd
      rw [← hxd] at hx
      clear hx
      unfold B64 at hxb
      replace hxd := hxd.symm
      go_wp2_with fail
      clear hxd
      go_loopw [10] (fun i wr => ∃ (k : Nat) (r' : St), k ≤ 8 ∧ i = .int .i64 k ∧ QAt wr p r' ∧ After r h a j k r' ∧ w.grownBy wr (some p)) (fun i _ => 8 - (intOf i).toNat)
      case atStart => exact ⟨0, r1, by omega, rfl, hQ1, hA1, hG1⟩
      case round =>
        obtain ⟨k, r2, hk, rfl, hQ2, hA2, hG2⟩ := hrel
        by_cases hk8 : k < 8
        · have c0 := hQ2.is hk8
          have c1 := hQ2.at hk8
          have f0 := hQ2.row.free k
          have HB := Lib.hid ((hA2 k hk8).1)
          have SK := Lib.hid (fun hn => hA2.skip hk8 hn)
          have HI := Lib.hid (fun hne hx => hA2.hit hk8 hQ2.len hne hx)
          have HO := Lib.hid (hQ2.off hk8 false)
          rw [← HXD.out] at SK HI
          rw [← HB.out] at SK HI
          generalize atS r2 k = b at *
          generalize isS r2 k = t at *
          by_cases hkh : (k : Int) = h
          · obtain rfl := hkh.symm
            clear c0 c1 f0
            go_wp2_with fail
            go_roundw
            case rel => exact ⟨k + 1, r2, by omega, by go_num, hQ2, SK.out (by simp), hG2⟩
            case measure => simp [intOf]; omega
          · have dk : ((k : Int) != h) = true := by simpa using hkh
            cases t
            · clear c1 f0
              go_wp2_with fail
              go_roundw
              case rel => exact ⟨k + 1, r2, by omega, by go_num, hQ2, SK.out (by simp), hG2⟩
              case measure => simp [intOf]; omega
            · by_cases hbx : b = blk x
              · obtain rfl := hbx
                go_wp2_with fail
                go_roundw
                case rel => exact ⟨k + 1, _, by omega, by go_num, HO.out, HI.out hkh rfl, gr_set hG2 _⟩
                case measure => simp [intOf]; omega
              · have db : (b == blk x) = false := by simpa using hbx
                clear f0
                go_wp2_with fail
                go_roundw
                case rel => exact ⟨k + 1, r2, by omega, by go_num, hQ2, SK.out (by simp [hbx]), hG2⟩
                case measure => simp [intOf]; omega
        · obtain rfl : k = 8 := by omega
          go_wp2_with fail
          go_roundw
          case rel => exact ⟨j + 1, r2, by omega, by go_num, hQ2, hA2.next, hG2⟩
          case measure => simp [intOf]; omega
    · have hd : decide ((j : Int) < n) = false := by simpa using hlt
      have hjn : n.toNat = j := by omega
      go_wp2_with fail
      first | go_end0 | refine bodyPost_ret (results_none rfl _ _ _) rfl ?_
      exact ⟨rfl, ⟨r1, hQ1, by first | exact hA1 | (rw [hjn]; exact hA1)⟩, hG1⟩
end Go.Proofs.YtaanmebebapbpaaDoor
