/-
  Proved: for any address, any page and any flags, the law WalkLevels returns true: a table of one entry each, down to a level, leads to the page that stands there; to a level that is not there, or without a flag that is asked for, it is a fault.
  Conditions: none beyond the statement's own.
-/
import Derived.Test.YtaeloplmcinagaaRows
import Derived.Test.YtaeloplmcinagaaOpen
import Derived.Lib.Hide
import Derived.Deep.Cut
import Derived.Test.YtaeloplmcinagaaWalkP
import Derived.Test.YtaeloplmcinagaaWalkQ
import Derived.Test.YtaeloplmcinagaaWalkL
import Derived.Test.YtaeloplmcinagaaPteR2
import Derived.Deep.RegionWith
namespace Go.Proofs.Ytaeloplmcinagaa.walkLevels
open Go Go.ChangeShapes Go.WideShapes Go.ChangeAt Go.RowKit W M D A C P K
set_option linter.unusedVariables false

theorem zgood : C.Good [0, 0, 0, 0, 0, 0, 0, 0, 0, 9223372036855300096, 0, 0] := good12 (by unfold B64; omega) (by unfold B64; omega) (by unfold B64; omega) (by unfold B64; omega) (by unfold B64; omega) (by unfold B64; omega) (by unfold B64; omega) (by unfold B64; omega) (by unfold B64; omega) (by unfold B64; omega) (by unfold B64; omega) (by unfold B64; omega)
/-- The page that is asked for, at a level. -/
def pgL (page : Int) (j : Nat) : Int := if j = 2 then page % 17592186044416 else if j = 1 then page % 17592186044416 / 512 * 512 else page % 17592186044416 / 262144 * 262144
theorem pg_bd (page : Int) (j : Nat) : 0 ≤ pgL page j ∧ pgL page j ≤ 17592186044415 := by
  unfold pgL
  split
  · omega
  · split <;> omega
theorem pg_aligned {page f : Int} {j : Nat} (hj : j ≤ 2) : alignedV (makeV (pgL page j) f) ((2 - j : Nat) : Int) = true := by
  have hb := pg_bd page j
  have hp : pageV (makeV (pgL page j) f) = pgL page j := by unfold pageV makeV; omega
  unfold alignedV
  rw [hp, known_ok (by omega), Bool.true_and, decide_eq_true_eq]
  rcases (show j = 0 ∨ j = 1 ∨ j = 2 by omega) with rfl | rfl | rfl
  · show pgL page 0 * 4096 % 1073741824 = 0
    show page % 17592186044416 / 262144 * 262144 * 4096 % 1073741824 = 0
    omega
  · show page % 17592186044416 / 512 * 512 * 4096 % 2097152 = 0
    omega
  · show page % 17592186044416 * 4096 % 4096 = 0
    omega
/-- What the walk comes to. -/
theorem come (v x page f kind priv : Int) (hv : B64 v) (hcan : canonV v = true) (j : Nat) (hj : j ≤ 2) (hx : x = makeV (pgL page j) f) (bs : List Int) (hbs : bs = putV (tabV v j zV) (slotV v j) 8 x) :
    (mayV x kind priv 0 = true → (walkV bs 9223372036855300096 0 priv kind v).isf = false ∧ toV bs 9223372036855300096 0 priv kind v = pgL page j * 4096 + v % szV ((2 - j : Nat) : Int)) ∧
    (mayV x kind priv 0 = false → tableV x = true → j < 2 → (walkV bs 9223372036855300096 0 priv kind v).isf = true) ∧
    (mayV x kind priv 0 = false → (tableV x = true → j = 2) → walkV bs 9223372036855300096 0 priv kind v = faultV (pfC kind) v) := by
  have hx64 : 0 ≤ x ∧ x ≤ 18446744073709551615 := by rw [hx]; exact make_64 _ _
  have hal : alignedV x ((2 - j : Nat) : Int) = true := by rw [hx]; exact pg_aligned hj
  have hw : walkV bs 9223372036855300096 0 priv kind v = if tableV x = true then downV bs v kind priv 0 (2 - j) (pageV x) (bt x 32) else
      if (alignedV x ((2 - j : Nat) : Int) && mayV x kind priv 0) = true then foundV x ((2 - j : Nat) : Int) (bt x 32) else faultV (pfC kind) v := by
    unfold walkV
    rw [if_pos (by decide +kernel), if_pos hcan, show (9223372036855300096 : Int) % 17592186044416 = 524288 from by decide, hbs, down_tab hv hx64 hj, down_step hv hx64 hj]
  rw [hal, Bool.true_and] at hw
  refine ⟨fun hm => ?_, fun hm ht h2 => ?_, fun hm ht => ?_⟩
  · have hnt := leaf_table x (may_leaf hm)
    rw [hnt, if_neg (by simp), if_pos hm] at hw
    refine ⟨by rw [hw]; rfl, ?_⟩
    unfold toV
    rw [if_pos (by decide +kernel), hw, if_neg (by simp [foundV])]
    show atV x v ((2 - j : Nat) : Int) = _
    rw [at_aligned (by omega) hal, hx]
    have hb := pg_bd page j
    rw [show pageV (makeV (pgL page j) f) = pgL page j by unfold pageV makeV; omega]
  · rw [ht, if_pos rfl] at hw
    rw [hw]
    have hlf : leafV x = false := by
      cases h : leafV x
      · rfl
      · rw [leaf_table x h] at ht; exact absurd ht (by simp)
    have hbare : Bare bs := by rw [hbs]; exact bare_put (tab_bare hv j (by omega)) (slot_bd hv hj).1 hx64 hlf
    exact bare_down hbare _ _ _
  · rw [hw]
    cases h : tableV x
    · rw [if_neg (by simp), if_neg (by rw [hm]; simp)]
    · rw [ht h, if_pos rfl]
      rfl
set_option maxRecDepth 100000 in
set_option maxHeartbeats 16000000 in
theorem walk (w : World) (a0 : Int) (w0 : (Lit.int .u64 a0).wf = true) (a1 : Int) (w1 : (Lit.int .u64 a1).wf = true) (a2_0 : Int) (w2_0 : (Lit.int .u8 a2_0).wf = true) (a2_1 : Int) (w2_1 : (Lit.int .u8 a2_1).wf = true) (a2_2 : Int) (w2_2 : (Lit.int .u8 a2_2).wf = true) (a2_3 : Int) (w2_3 : (Lit.int .u8 a2_3).wf = true) :
    Calls Try.prog 5 #[.int .u64 a0, .int .u64 a1, .agg #[.int .u8 a2_0, .int .u8 a2_1, .int .u8 a2_2, .int .u8 a2_3]] w fun e w' => e = .returned (.bool true) ∧ Below w.heap.size w w' := by
  have hv0 : B64 a0 := bounds_u64 w0
  have hp0 : B64 a1 := bounds_u64 w1
  have hf0 : 0 ≤ a2_0 ∧ a2_0 ≤ 255 := bounds_u8 w2_0
  have hl0 : 0 ≤ a2_1 ∧ a2_1 ≤ 255 := bounds_u8 w2_1
  have hk0 : 0 ≤ a2_2 ∧ a2_2 ≤ 255 := bounds_u8 w2_2
  have hr0 : 0 ≤ a2_3 ∧ a2_3 ≤ 255 := bounds_u8 w2_3
  clear w0 w1 w2_0 w2_1 w2_2 w2_3
  obtain ⟨v, hve⟩ : ∃ v, a0 % 274877906944 = v := ⟨_, rfl⟩
  have hv : B64 v := by unfold B64 at *; omega
  have hcan : canonV v = true := by
    unfold canonV
    rw [show v / 274877906944 = 0 by unfold B64 at hv0; omega]
    rfl
  obtain ⟨kd, hkd⟩ : ∃ kd, a2_2 % 3 = kd := ⟨_, rfl⟩
  have hkb : 0 ≤ kd ∧ kd ≤ 2 := by omega
  obtain ⟨pr, hpr⟩ : ∃ pr, a2_3 % 2 = pr := ⟨_, rfl⟩
  have hrb : 0 ≤ pr ∧ pr ≤ 1 := by omega
  obtain ⟨fl, hfl⟩ : ∃ fl, bits .or .u64 a2_0 1 = fl := ⟨_, rfl⟩
  have hflb : B64 fl := by
    have := or_one 0 1 rfl (by omega) a2_0 (by unfold B64; omega)
    rw [hfl] at this
    unfold B64
    omega
  have HR0 := Lib.hid (Row.fresh w 56 [.int .u8 a2_0, .int .u8 a2_1, .int .u8 a2_2, .int .u8 a2_3])
  have HG0 := Lib.hid (gr_alloc (gr_refl w none) (.cells #[.int .u8 a2_0, .int .u8 a2_1, .int .u8 a2_2, .int .u8 a2_3] 56))
  have HV := Lib.hid hv
  have HP0 := Lib.hid hp0
  unfold B64 at hv0 hp0 hv
  go_enter Try.func5, Try.ntmps5
  go_wp2_with fail
  refine (shown11_c _).mono ?_
  rintro e w1 ⟨rfl, hG⟩
  have hR1 := HR0.out.grown hG (by simp)
  have hG1 := gr_trans HG0.out hG
  clear HR0 HG0 hG
  go_wp2_with fail
  refine (New_yes 4 (by omega) (by omega) _).mono ?_
  rintro e w2 ⟨rfl, hA, hG⟩
  have hR2 := hR1.grown hG (by simp)
  have hG2 := gr_trans hG1 hG
  have hgb : w.heap.size < w1.heap.size := hR1.lt
  clear hR1 hG1 hG
  replace hA : RAt w2 (w1.heap.size + 1) w1.heap.size zV := hA
  obtain ⟨b, hb⟩ : ∃ b, w.heap.size = b := ⟨_, rfl⟩
  rw [hb] at hR2 hgb ⊢
  have HB := Lib.hid hb
  clear hb
  generalize w1.heap.size = g at *
  rcases (show a2_1 % 3 = 0 ∨ a2_1 % 3 = 1 ∨ a2_1 % 3 = 2 by omega) with hlev | hlev | hlev
  · have c0 : w2.cell? ⟨b, 0, none⟩ = some (.int .u8 a2_0) := hR2.cell 0
    have c1 : w2.cell? ⟨b, 1, none⟩ = some (.int .u8 a2_1) := hR2.cell 1
    have lt := hR2.lt
    have HRR := Lib.hid hR2
    have HAA := Lib.hid hA
    have HGG := Lib.hid hG2
    clear hR2 hA hG2
    go_wp2_with fail
    rw [hve, hlev]
    go_loopw [12] (fun i wr => ∃ k : Nat, k ≤ 2 ∧ i = .int .i64 (2 - (k : Int)) ∧ RAt wr (g + 1) g (tabV v k zV) ∧ Row wr b 56 [.int .u8 a2_0, .int .u8 a2_1, .int .u8 a2_2, .int .u8 a2_3] ∧ w.grownBy wr none) (fun i _ => (intOf i).toNat)
    case atStart => exact ⟨0, by omega, rfl, HAA.out, HRR.out, HGG.out⟩
    case round =>
      clear c0 c1 lt HRR HAA HGG
      obtain ⟨k, hk, rfl, hA, hR, hG⟩ := hrel
      rcases (show k = 0 ∨ k = 1 ∨ k = 2 by omega) with rfl | rfl | rfl
      · have VP := Lib.hid (fun W => Vpn_c v 2 HV.out (by unfold I64; omega) W)
        have MK := Lib.hid (fun W => Make_c 524289 1 (by unfold B64; omega) (by unfold B64; omega) W)
        have hvb := vpn_bd (n := 2) HV.out
        have hsl : slotV v 0 = (524288 + 0) * 4096 + 8 * vpnV v 2 := rfl
        have hen : entV 0 = makeV 524289 1 := rfl
        have HST := Lib.hid (show tabV v (0 + 1) zV = putV (tabV v 0 zV) ((524288 + 0) * 4096 + 8 * vpnV v 2) 8 (makeV 524289 1) from rfl)
        have HM := Lib.hid (make_64 524289 1)
        generalize vpnV v 2 = vp at *
        generalize makeV 524289 1 = en at *
        generalize tabV v 0 zV = cs at *
        clear hsl hen
        rw [show (2 : Int) - ((0 : Nat) : Int) = 2 from rfl]
        have HAA := Lib.hid hA
        have HRR := Lib.hid hR
        have HGG := Lib.hid hG
        clear hA hR hG
        go_wp2_with fail
        refine (VP.out _).mono ?_
        rintro e w' ⟨rfl, rfl⟩
        go_wp2_with fail
        refine (MK.out _).mono ?_
        rintro e w' ⟨rfl, rfl⟩
        go_wp2_with fail
        refine (Put_c _ _ cs _ 8 _ _ HAA.out (by omega) (by omega) HM.out).mono ?_
        rintro e w3 ⟨rfl, hA3, hG3⟩
        have hR3 := HRR.out.grown hG3 (some_ne (by omega))
        have hG4 : w.grownBy w3 none := gr_row (gr_trans (gr_none HGG.out _) hG3) (by rw [HB.out]; omega)
        clear HAA HRR HGG hG3
        go_wp2_with fail
        go_roundw
        case rel =>
          first
            | exact ⟨0 + 1, by omega, rfl, by rw [HST.out]; exact hA3, hR3, hG4⟩
            | (repeat apply Exists.intro); exact ⟨⟨0 + 1, by omega, rfl, by rw [HST.out]; exact hA3, hR3, hG4⟩, rfl⟩
        case measure => simp [intOf]
      · have VP := Lib.hid (fun W => Vpn_c v 1 HV.out (by unfold I64; omega) W)
        have MK := Lib.hid (fun W => Make_c 524290 1 (by unfold B64; omega) (by unfold B64; omega) W)
        have hvb := vpn_bd (n := 1) HV.out
        have hsl : slotV v 1 = (524288 + 1) * 4096 + 8 * vpnV v 1 := rfl
        have hen : entV 1 = makeV 524290 1 := rfl
        have HST := Lib.hid (show tabV v (1 + 1) zV = putV (tabV v 1 zV) ((524288 + 1) * 4096 + 8 * vpnV v 1) 8 (makeV 524290 1) from rfl)
        have HM := Lib.hid (make_64 524290 1)
        generalize vpnV v 1 = vp at *
        generalize makeV 524290 1 = en at *
        generalize tabV v 1 zV = cs at *
        clear hsl hen
        rw [show (2 : Int) - ((1 : Nat) : Int) = 1 from rfl]
        have HAA := Lib.hid hA
        have HRR := Lib.hid hR
        have HGG := Lib.hid hG
        clear hA hR hG
        go_wp2_with fail
        refine (VP.out _).mono ?_
        rintro e w' ⟨rfl, rfl⟩
        go_wp2_with fail
        refine (MK.out _).mono ?_
        rintro e w' ⟨rfl, rfl⟩
        go_wp2_with fail
        refine (Put_c _ _ cs _ 8 _ _ HAA.out (by omega) (by omega) HM.out).mono ?_
        rintro e w3 ⟨rfl, hA3, hG3⟩
        have hR3 := HRR.out.grown hG3 (some_ne (by omega))
        have hG4 : w.grownBy w3 none := gr_row (gr_trans (gr_none HGG.out _) hG3) (by rw [HB.out]; omega)
        clear HAA HRR HGG hG3
        go_wp2_with fail
        go_roundw
        case rel =>
          first
            | exact ⟨1 + 1, by omega, rfl, by rw [HST.out]; exact hA3, hR3, hG4⟩
            | (repeat apply Exists.intro); exact ⟨⟨1 + 1, by omega, rfl, by rw [HST.out]; exact hA3, hR3, hG4⟩, rfl⟩
        case measure => simp [intOf]
      · clear hk
        rw [show (2 : Int) - ((2 : Nat) : Int) = 0 from rfl]
        have c0 : wr.cell? ⟨b, 0, none⟩ = some (.int .u8 a2_0) := hR.cell 0
        have c2 : wr.cell? ⟨b, 2, none⟩ = some (.int .u8 a2_2) := hR.cell 2
        have c3 : wr.cell? ⟨b, 3, none⟩ = some (.int .u8 a2_3) := hR.cell 3
        have lt := hR.lt
        have HAA := Lib.hid hA
        have HRR := Lib.hid hR
        have HGG := Lib.hid hG
        clear hA hR hG
        have MK := Lib.hid (fun W => Make_c (a1 % 17592186044416) fl (by unfold B64; omega) hflb W)
        have hpgL : pgL a1 2 = a1 % 17592186044416 := rfl
        have HPG := Lib.hid hpgL
        obtain ⟨x, hx⟩ : ∃ x, x = makeV (a1 % 17592186044416) fl := ⟨_, rfl⟩
        rw [← hx] at MK
        have hx64 : B64 x := by rw [hx]; exact make_64 _ _
        obtain ⟨bs, hbs⟩ : ∃ bs, bs = putV (tabV v 2 zV) (slotV v 2) 8 x := ⟨_, rfl⟩
        obtain ⟨cm1, cm2, cm3⟩ := come v x a1 fl kd pr HV.out hcan 2 (by omega) (by rw [hpgL]; exact hx) bs hbs
        have hsl : slotV v 2 = (524288 + 2) * 4096 + 8 * vpnV v 0 := rfl
        rw [hsl] at hbs
        have HBS := Lib.hid hbs
        have hvb := vpn_bd (n := 0) HV.out
        have VP := Lib.hid (fun W => Vpn_c v 0 HV.out (by unfold I64; omega) W)
        generalize tabV v 2 zV = cs at *
        generalize vpnV v 0 = vp at *
        obtain ⟨R, hR⟩ : ∃ R, R = walkV bs 9223372036855300096 0 pr kd v := ⟨_, rfl⟩
        obtain ⟨y, hy⟩ : ∃ y, y = toV bs 9223372036855300096 0 pr kd v := ⟨_, rfl⟩
        have TO := Lib.hid (fun (p g : Nat) W hW => to_at (p := p) (g := g) (bs := bs) zgood (by unfold I64; omega) (by unfold I64; omega) HV.out hR hy W hW)
        rw [← hR, ← hy] at cm1
        rw [← hR] at cm2 cm3
        have CM1 := Lib.hid cm1
        have CM2 := Lib.hid cm2
        have CM3 := Lib.hid cm3
        have MY := Lib.hid (fun W => rMay_c x kd pr 0 hx64 (by unfold I64; omega) (by unfold I64; omega) (by unfold B64; omega) W)
        have TB := Lib.hid (fun W => rTable_c x hx64 W)
        have PF := Lib.hid (fun W => PageFault_c kd v (by unfold I64; omega) W)
        unfold vFault at PF
        replace TO : Hid (∀ (p g : Nat) (W : World), RAt W p g bs → Calls Try.prog 12 #[.pointer (some ⟨p, 0, none⟩), .agg #[.int .u64 0, .int .u64 0, .int .u64 0, .int .u64 0, .int .u64 0, .int .u64 0, .int .u64 0, .int .u64 0, .int .u64 0, .int .u64 9223372036855300096, .int .u64 0, .int .u64 0], .int .i64 pr, .int .i64 kd, .int .u64 v] W fun e w' => e = .returned (.tuple #[.int .u64 y, .agg #[.bool R.isf, .int .i64 R.cause, .int .u64 R.val]]) ∧ W.grownBy w' none) := TO
        have HX64 := Lib.hid hx64
        unfold B64 at hx64
        clear hx hbs hR hy cm1 cm2 cm3 hsl hpgL
        go_wp2_with fail
        refine (MK.out _).mono ?_
        rintro e w' ⟨rfl, rfl⟩
        go_wp2_with fail
        refine (VP.out _).mono ?_
        rintro e w' ⟨rfl, rfl⟩
        go_wp2_with fail
        refine (Put_c _ _ cs _ 8 _ _ HAA.out (by omega) (by omega) HX64.out).mono ?_
        rintro e w3 ⟨rfl, hA3, hG3⟩
        replace hA3 : RAt w3 (g + 1) g bs := by rw [HBS.out]; exact hA3
        have hR3 := HRR.out.grown hG3 (some_ne (by omega))
        have hG4 : w.grownBy w3 none := gr_row (gr_trans (gr_none HGG.out _) hG3) (by rw [HB.out]; omega)
        clear HAA HRR HGG hG3 c0 c2 c3 lt
        have hgx := gr_alloc (gr_refl w3 none) (.cells #[.int .u64 0, .int .u64 0, .int .u64 0, .int .u64 0, .int .u64 0, .int .u64 0, .int .u64 0, .int .u64 0, .int .u64 0, .int .u64 9223372036855300096, .int .u64 0, .int .u64 0] 27)
        have hA5 := hA3.kept hgx
        have hR5 := hR3.grown hgx (by simp)
        have hG5 := gr_trans hG4 hgx
        have cr := Row.fresh w3 27 [.int .u64 0, .int .u64 0, .int .u64 0, .int .u64 0, .int .u64 0, .int .u64 0, .int .u64 0, .int .u64 0, .int .u64 0, .int .u64 9223372036855300096, .int .u64 0, .int .u64 0]
        replace cr : Row (w3.alloc (.cells #[.int .u64 0, .int .u64 0, .int .u64 0, .int .u64 0, .int .u64 0, .int .u64 0, .int .u64 0, .int .u64 0, .int .u64 0, .int .u64 9223372036855300096, .int .u64 0, .int .u64 0] 27)) w3.heap.size 27 [.int .u64 0, .int .u64 0, .int .u64 0, .int .u64 0, .int .u64 0, .int .u64 0, .int .u64 0, .int .u64 0, .int .u64 0, .int .u64 9223372036855300096, .int .u64 0, .int .u64 0] := cr
        go_upto_region 16 with (fail)
        clear hA3 hR3 hG4 hgx
        generalize w3.alloc (.cells #[.int .u64 0, .int .u64 0, .int .u64 0, .int .u64 0, .int .u64 0, .int .u64 0, .int .u64 0, .int .u64 0, .int .u64 0, .int .u64 9223372036855300096, .int .u64 0, .int .u64 0] 27) = U3 at *
        generalize w3.heap.size = q at *
        have c0 : U3.cell? ⟨b, 0, none⟩ = some (.int .u8 a2_0) := hR5.cell 0
        have c2 : U3.cell? ⟨b, 2, none⟩ = some (.int .u8 a2_2) := hR5.cell 2
        have c3 : U3.cell? ⟨b, 3, none⟩ = some (.int .u8 a2_3) := hR5.cell 3
        have lt := hR5.lt
        have lq := cr.lt
        have z0 : U3.cell? ⟨q, 0, none⟩ = some (.int .u64 0) := cr.cell 0
        have z1 : U3.cell? ⟨q, 1, none⟩ = some (.int .u64 0) := cr.cell 1
        have z2 : U3.cell? ⟨q, 2, none⟩ = some (.int .u64 0) := cr.cell 2
        have z3 : U3.cell? ⟨q, 3, none⟩ = some (.int .u64 0) := cr.cell 3
        have z4 : U3.cell? ⟨q, 4, none⟩ = some (.int .u64 0) := cr.cell 4
        have z5 : U3.cell? ⟨q, 5, none⟩ = some (.int .u64 0) := cr.cell 5
        have z6 : U3.cell? ⟨q, 6, none⟩ = some (.int .u64 0) := cr.cell 6
        have z7 : U3.cell? ⟨q, 7, none⟩ = some (.int .u64 0) := cr.cell 7
        have z8 : U3.cell? ⟨q, 8, none⟩ = some (.int .u64 0) := cr.cell 8
        have z9 : U3.cell? ⟨q, 9, none⟩ = some (.int .u64 9223372036855300096) := cr.cell 9
        have z10 : U3.cell? ⟨q, 10, none⟩ = some (.int .u64 0) := cr.cell 10
        have z11 : U3.cell? ⟨q, 11, none⟩ = some (.int .u64 0) := cr.cell 11
        have HAA := Lib.hid hA5
        have HGG := Lib.hid hG5
        clear hA5 hR5 hG5 cr
        go_wp2_with fail
        refine (TO.out _ _ _ HAA.out).mono ?_
        rintro e w5 ⟨rfl, hG⟩
        have hgy := gr_alloc (gr_trans HGG.out hG) (.cells #[.bool R.isf, .int .i64 R.cause, .int .u64 R.val] 38)
        have fr := new3 w5 38 (.bool R.isf) (.int .i64 R.cause) (.int .u64 R.val)
        clear hG HAA HGG c0 c2 c3 lt lq z0 z1 z2 z3 z4 z5 z6 z7 z8 z9 z10 z11 TO
        go_upto_region 19 with (fail)
        generalize w5.alloc (.cells #[.bool R.isf, .int .i64 R.cause, .int .u64 R.val] 38) = U5 at *
        generalize w5.heap.size = qf at *
        obtain ⟨f0, f1, f2⟩ := cells3 fr
        have lf := fr.lt
        have HFR := Lib.hid fr
        have HGR := Lib.hid hgy
        clear fr hgy
        have c1 := CM1.out
        have c2 := CM2.out
        have c3 := CM3.out
        clear CM1 CM2 CM3
        go_wp2_with fail
        refine (MY.out _).mono ?_
        rintro e w' ⟨rfl, rfl⟩
        cases hmy : mayV x kd pr 0
        · clear c1
          go_wp2_with fail
          refine (TB.out _).mono ?_
          rintro e w' ⟨rfl, rfl⟩
          cases htb : tableV x
          · have hr := c3 hmy (fun h => by rw [htb] at h; exact absurd h (by simp))
            subst hr
            replace f0 : U5.cell? ⟨qf, 0, none⟩ = some (.bool true) := f0
            replace f1 : U5.cell? ⟨qf, 1, none⟩ = some (.int .i64 (pfC kd)) := f1
            replace f2 : U5.cell? ⟨qf, 2, none⟩ = some (.int .u64 v) := f2
            have fr : Row U5 qf 38 [.bool true, .int .i64 (pfC kd), .int .u64 v] := HFR.out
            clear c2 c3 htb hmy HFR
            have E1 := fun W => eql_Fs true (pfC kd) v W
            generalize pfC kd = pf at *
            have HGG := Lib.hid HGR.out
            clear HGR
            go_wp2_with fail
            go_region_with (go_at_call 14; refine (PF.out _).mono ?_; rintro e w6 ⟨rfl, hG⟩; have hG2 : U5.grownBy w6 none := ⟨hG.os, hG.tape, hG.output, hG.size, hG.block⟩; have fr2 := fr.grown hG2 (by simp); obtain ⟨r0, r1, r2⟩ := cells3 fr2; have lr := fr2.lt; have HW := Lib.hid (gr_trans HGG.out hG2); clear hG hG2)
            all_goals
              go_wp2_with fail
              go_ret
              first
                | exact ⟨rfl, gr_below HW.out⟩
                | exact ⟨rfl, gr_below (gr_drew HW.out)⟩
          · have hr := c3 hmy (by simp)
            subst hr
            replace f0 : U5.cell? ⟨qf, 0, none⟩ = some (.bool true) := f0
            replace f1 : U5.cell? ⟨qf, 1, none⟩ = some (.int .i64 (pfC kd)) := f1
            replace f2 : U5.cell? ⟨qf, 2, none⟩ = some (.int .u64 v) := f2
            have fr : Row U5 qf 38 [.bool true, .int .i64 (pfC kd), .int .u64 v] := HFR.out
            clear c2 c3 htb hmy HFR
            have E1 := fun W => eql_Fs true (pfC kd) v W
            generalize pfC kd = pf at *
            have HGG := Lib.hid HGR.out
            clear HGR
            go_wp2_with fail
            go_region_with (go_at_call 14; refine (PF.out _).mono ?_; rintro e w6 ⟨rfl, hG⟩; have hG2 : U5.grownBy w6 none := ⟨hG.os, hG.tape, hG.output, hG.size, hG.block⟩; have fr2 := fr.grown hG2 (by simp); obtain ⟨r0, r1, r2⟩ := cells3 fr2; have lr := fr2.lt; have HW := Lib.hid (gr_trans HGG.out hG2); clear hG hG2)
            all_goals
              go_wp2_with fail
              go_ret
              first
                | exact ⟨rfl, gr_below HW.out⟩
                | exact ⟨rfl, gr_below (gr_drew HW.out)⟩
        · obtain ⟨k1, k2⟩ := c1 hmy
          clear c2 c3 hmy
          rw [HPG.out, show szV ((2 - 2 : Nat) : Int) = 4096 from rfl] at k2
          rw [k1] at f0
          clear k1
          subst k2
          go_wp2_with fail
          go_ret
          exact ⟨rfl, gr_below HGR.out⟩
  · have c0 : w2.cell? ⟨b, 0, none⟩ = some (.int .u8 a2_0) := hR2.cell 0
    have c1 : w2.cell? ⟨b, 1, none⟩ = some (.int .u8 a2_1) := hR2.cell 1
    have lt := hR2.lt
    have HRR := Lib.hid hR2
    have HAA := Lib.hid hA
    have HGG := Lib.hid hG2
    clear hR2 hA hG2
    go_wp2_with fail
    rw [hve, hlev]
    go_loopw [12] (fun i wr => ∃ k : Nat, k ≤ 1 ∧ i = .int .i64 (2 - (k : Int)) ∧ RAt wr (g + 1) g (tabV v k zV) ∧ Row wr b 56 [.int .u8 a2_0, .int .u8 a2_1, .int .u8 a2_2, .int .u8 a2_3] ∧ w.grownBy wr none) (fun i _ => (intOf i).toNat)
    case atStart => exact ⟨0, by omega, rfl, HAA.out, HRR.out, HGG.out⟩
    case round =>
      clear c0 c1 lt HRR HAA HGG
      obtain ⟨k, hk, rfl, hA, hR, hG⟩ := hrel
      rcases (show k = 0 ∨ k = 1 by omega) with rfl | rfl
      · have VP := Lib.hid (fun W => Vpn_c v 2 HV.out (by unfold I64; omega) W)
        have MK := Lib.hid (fun W => Make_c 524289 1 (by unfold B64; omega) (by unfold B64; omega) W)
        have hvb := vpn_bd (n := 2) HV.out
        have hsl : slotV v 0 = (524288 + 0) * 4096 + 8 * vpnV v 2 := rfl
        have hen : entV 0 = makeV 524289 1 := rfl
        have HST := Lib.hid (show tabV v (0 + 1) zV = putV (tabV v 0 zV) ((524288 + 0) * 4096 + 8 * vpnV v 2) 8 (makeV 524289 1) from rfl)
        have HM := Lib.hid (make_64 524289 1)
        generalize vpnV v 2 = vp at *
        generalize makeV 524289 1 = en at *
        generalize tabV v 0 zV = cs at *
        clear hsl hen
        rw [show (2 : Int) - ((0 : Nat) : Int) = 2 from rfl]
        have HAA := Lib.hid hA
        have HRR := Lib.hid hR
        have HGG := Lib.hid hG
        clear hA hR hG
        go_wp2_with fail
        refine (VP.out _).mono ?_
        rintro e w' ⟨rfl, rfl⟩
        go_wp2_with fail
        refine (MK.out _).mono ?_
        rintro e w' ⟨rfl, rfl⟩
        go_wp2_with fail
        refine (Put_c _ _ cs _ 8 _ _ HAA.out (by omega) (by omega) HM.out).mono ?_
        rintro e w3 ⟨rfl, hA3, hG3⟩
        have hR3 := HRR.out.grown hG3 (some_ne (by omega))
        have hG4 : w.grownBy w3 none := gr_row (gr_trans (gr_none HGG.out _) hG3) (by rw [HB.out]; omega)
        clear HAA HRR HGG hG3
        go_wp2_with fail
        go_roundw
        case rel =>
          first
            | exact ⟨0 + 1, by omega, rfl, by rw [HST.out]; exact hA3, hR3, hG4⟩
            | (repeat apply Exists.intro); exact ⟨⟨0 + 1, by omega, rfl, by rw [HST.out]; exact hA3, hR3, hG4⟩, rfl⟩
        case measure => simp [intOf]
      · clear hk
        rw [show (2 : Int) - ((1 : Nat) : Int) = 1 from rfl]
        have c0 : wr.cell? ⟨b, 0, none⟩ = some (.int .u8 a2_0) := hR.cell 0
        have c2 : wr.cell? ⟨b, 2, none⟩ = some (.int .u8 a2_2) := hR.cell 2
        have c3 : wr.cell? ⟨b, 3, none⟩ = some (.int .u8 a2_3) := hR.cell 3
        have lt := hR.lt
        have HAA := Lib.hid hA
        have HRR := Lib.hid hR
        have HGG := Lib.hid hG
        clear hA hR hG
        have MK := Lib.hid (fun W => Make_c (a1 % 17592186044416 / 512 * 512) fl (by unfold B64; omega) hflb W)
        have hpgL : pgL a1 1 = a1 % 17592186044416 / 512 * 512 := rfl
        have HPG := Lib.hid hpgL
        obtain ⟨x, hx⟩ : ∃ x, x = makeV (a1 % 17592186044416 / 512 * 512) fl := ⟨_, rfl⟩
        rw [← hx] at MK
        have hx64 : B64 x := by rw [hx]; exact make_64 _ _
        obtain ⟨bs, hbs⟩ : ∃ bs, bs = putV (tabV v 1 zV) (slotV v 1) 8 x := ⟨_, rfl⟩
        obtain ⟨cm1, cm2, cm3⟩ := come v x a1 fl kd pr HV.out hcan 1 (by omega) (by rw [hpgL]; exact hx) bs hbs
        have hsl : slotV v 1 = (524288 + 1) * 4096 + 8 * vpnV v 1 := rfl
        rw [hsl] at hbs
        have HBS := Lib.hid hbs
        have hvb := vpn_bd (n := 1) HV.out
        have VP := Lib.hid (fun W => Vpn_c v 1 HV.out (by unfold I64; omega) W)
        generalize tabV v 1 zV = cs at *
        generalize vpnV v 1 = vp at *
        obtain ⟨R, hR⟩ : ∃ R, R = walkV bs 9223372036855300096 0 pr kd v := ⟨_, rfl⟩
        obtain ⟨y, hy⟩ : ∃ y, y = toV bs 9223372036855300096 0 pr kd v := ⟨_, rfl⟩
        have TO := Lib.hid (fun (p g : Nat) W hW => to_at (p := p) (g := g) (bs := bs) zgood (by unfold I64; omega) (by unfold I64; omega) HV.out hR hy W hW)
        rw [← hR, ← hy] at cm1
        rw [← hR] at cm2 cm3
        have CM1 := Lib.hid cm1
        have CM2 := Lib.hid cm2
        have CM3 := Lib.hid cm3
        have MY := Lib.hid (fun W => rMay_c x kd pr 0 hx64 (by unfold I64; omega) (by unfold I64; omega) (by unfold B64; omega) W)
        have TB := Lib.hid (fun W => rTable_c x hx64 W)
        have PF := Lib.hid (fun W => PageFault_c kd v (by unfold I64; omega) W)
        unfold vFault at PF
        replace TO : Hid (∀ (p g : Nat) (W : World), RAt W p g bs → Calls Try.prog 12 #[.pointer (some ⟨p, 0, none⟩), .agg #[.int .u64 0, .int .u64 0, .int .u64 0, .int .u64 0, .int .u64 0, .int .u64 0, .int .u64 0, .int .u64 0, .int .u64 0, .int .u64 9223372036855300096, .int .u64 0, .int .u64 0], .int .i64 pr, .int .i64 kd, .int .u64 v] W fun e w' => e = .returned (.tuple #[.int .u64 y, .agg #[.bool R.isf, .int .i64 R.cause, .int .u64 R.val]]) ∧ W.grownBy w' none) := TO
        have HX64 := Lib.hid hx64
        unfold B64 at hx64
        clear hx hbs hR hy cm1 cm2 cm3 hsl hpgL
        go_wp2_with fail
        refine (MK.out _).mono ?_
        rintro e w' ⟨rfl, rfl⟩
        go_wp2_with fail
        refine (VP.out _).mono ?_
        rintro e w' ⟨rfl, rfl⟩
        go_wp2_with fail
        refine (Put_c _ _ cs _ 8 _ _ HAA.out (by omega) (by omega) HX64.out).mono ?_
        rintro e w3 ⟨rfl, hA3, hG3⟩
        replace hA3 : RAt w3 (g + 1) g bs := by rw [HBS.out]; exact hA3
        have hR3 := HRR.out.grown hG3 (some_ne (by omega))
        have hG4 : w.grownBy w3 none := gr_row (gr_trans (gr_none HGG.out _) hG3) (by rw [HB.out]; omega)
        clear HAA HRR HGG hG3 c0 c2 c3 lt
        have hgx := gr_alloc (gr_refl w3 none) (.cells #[.int .u64 0, .int .u64 0, .int .u64 0, .int .u64 0, .int .u64 0, .int .u64 0, .int .u64 0, .int .u64 0, .int .u64 0, .int .u64 9223372036855300096, .int .u64 0, .int .u64 0] 27)
        have hA5 := hA3.kept hgx
        have hR5 := hR3.grown hgx (by simp)
        have hG5 := gr_trans hG4 hgx
        have cr := Row.fresh w3 27 [.int .u64 0, .int .u64 0, .int .u64 0, .int .u64 0, .int .u64 0, .int .u64 0, .int .u64 0, .int .u64 0, .int .u64 0, .int .u64 9223372036855300096, .int .u64 0, .int .u64 0]
        replace cr : Row (w3.alloc (.cells #[.int .u64 0, .int .u64 0, .int .u64 0, .int .u64 0, .int .u64 0, .int .u64 0, .int .u64 0, .int .u64 0, .int .u64 0, .int .u64 9223372036855300096, .int .u64 0, .int .u64 0] 27)) w3.heap.size 27 [.int .u64 0, .int .u64 0, .int .u64 0, .int .u64 0, .int .u64 0, .int .u64 0, .int .u64 0, .int .u64 0, .int .u64 0, .int .u64 9223372036855300096, .int .u64 0, .int .u64 0] := cr
        go_upto_region 16 with (fail)
        clear hA3 hR3 hG4 hgx
        generalize w3.alloc (.cells #[.int .u64 0, .int .u64 0, .int .u64 0, .int .u64 0, .int .u64 0, .int .u64 0, .int .u64 0, .int .u64 0, .int .u64 0, .int .u64 9223372036855300096, .int .u64 0, .int .u64 0] 27) = U3 at *
        generalize w3.heap.size = q at *
        have c0 : U3.cell? ⟨b, 0, none⟩ = some (.int .u8 a2_0) := hR5.cell 0
        have c2 : U3.cell? ⟨b, 2, none⟩ = some (.int .u8 a2_2) := hR5.cell 2
        have c3 : U3.cell? ⟨b, 3, none⟩ = some (.int .u8 a2_3) := hR5.cell 3
        have lt := hR5.lt
        have lq := cr.lt
        have z0 : U3.cell? ⟨q, 0, none⟩ = some (.int .u64 0) := cr.cell 0
        have z1 : U3.cell? ⟨q, 1, none⟩ = some (.int .u64 0) := cr.cell 1
        have z2 : U3.cell? ⟨q, 2, none⟩ = some (.int .u64 0) := cr.cell 2
        have z3 : U3.cell? ⟨q, 3, none⟩ = some (.int .u64 0) := cr.cell 3
        have z4 : U3.cell? ⟨q, 4, none⟩ = some (.int .u64 0) := cr.cell 4
        have z5 : U3.cell? ⟨q, 5, none⟩ = some (.int .u64 0) := cr.cell 5
        have z6 : U3.cell? ⟨q, 6, none⟩ = some (.int .u64 0) := cr.cell 6
        have z7 : U3.cell? ⟨q, 7, none⟩ = some (.int .u64 0) := cr.cell 7
        have z8 : U3.cell? ⟨q, 8, none⟩ = some (.int .u64 0) := cr.cell 8
        have z9 : U3.cell? ⟨q, 9, none⟩ = some (.int .u64 9223372036855300096) := cr.cell 9
        have z10 : U3.cell? ⟨q, 10, none⟩ = some (.int .u64 0) := cr.cell 10
        have z11 : U3.cell? ⟨q, 11, none⟩ = some (.int .u64 0) := cr.cell 11
        have HAA := Lib.hid hA5
        have HGG := Lib.hid hG5
        clear hA5 hR5 hG5 cr
        go_wp2_with fail
        refine (TO.out _ _ _ HAA.out).mono ?_
        rintro e w5 ⟨rfl, hG⟩
        have hgy := gr_alloc (gr_trans HGG.out hG) (.cells #[.bool R.isf, .int .i64 R.cause, .int .u64 R.val] 38)
        have fr := new3 w5 38 (.bool R.isf) (.int .i64 R.cause) (.int .u64 R.val)
        clear hG HAA HGG c0 c2 c3 lt lq z0 z1 z2 z3 z4 z5 z6 z7 z8 z9 z10 z11 TO
        go_upto_region 19 with (fail)
        generalize w5.alloc (.cells #[.bool R.isf, .int .i64 R.cause, .int .u64 R.val] 38) = U5 at *
        generalize w5.heap.size = qf at *
        obtain ⟨f0, f1, f2⟩ := cells3 fr
        have lf := fr.lt
        have HFR := Lib.hid fr
        have HGR := Lib.hid hgy
        clear fr hgy
        have c1 := CM1.out
        have c2 := CM2.out
        have c3 := CM3.out
        clear CM1 CM2 CM3
        go_wp2_with fail
        refine (MY.out _).mono ?_
        rintro e w' ⟨rfl, rfl⟩
        cases hmy : mayV x kd pr 0
        · clear c1
          go_wp2_with fail
          refine (TB.out _).mono ?_
          rintro e w' ⟨rfl, rfl⟩
          cases htb : tableV x
          · have hr := c3 hmy (fun h => by rw [htb] at h; exact absurd h (by simp))
            subst hr
            replace f0 : U5.cell? ⟨qf, 0, none⟩ = some (.bool true) := f0
            replace f1 : U5.cell? ⟨qf, 1, none⟩ = some (.int .i64 (pfC kd)) := f1
            replace f2 : U5.cell? ⟨qf, 2, none⟩ = some (.int .u64 v) := f2
            have fr : Row U5 qf 38 [.bool true, .int .i64 (pfC kd), .int .u64 v] := HFR.out
            clear c2 c3 htb hmy HFR
            have E1 := fun W => eql_Fs true (pfC kd) v W
            generalize pfC kd = pf at *
            have HGG := Lib.hid HGR.out
            clear HGR
            go_wp2_with fail
            go_region_with (go_at_call 14; refine (PF.out _).mono ?_; rintro e w6 ⟨rfl, hG⟩; have hG2 : U5.grownBy w6 none := ⟨hG.os, hG.tape, hG.output, hG.size, hG.block⟩; have fr2 := fr.grown hG2 (by simp); obtain ⟨r0, r1, r2⟩ := cells3 fr2; have lr := fr2.lt; have HW := Lib.hid (gr_trans HGG.out hG2); clear hG hG2)
            all_goals
              go_wp2_with fail
              go_ret
              first
                | exact ⟨rfl, gr_below HW.out⟩
                | exact ⟨rfl, gr_below (gr_drew HW.out)⟩
          · have hr := c2 hmy htb (by omega)
            rw [hr] at f0
            clear c2 c3 htb hmy hr
            go_wp2_with fail
            go_ret
            exact ⟨rfl, gr_below HGR.out⟩
        · obtain ⟨k1, k2⟩ := c1 hmy
          clear c2 c3 hmy
          rw [HPG.out, show szV ((2 - 1 : Nat) : Int) = 2097152 from rfl] at k2
          rw [k1] at f0
          clear k1
          subst k2
          go_wp2_with fail
          go_ret
          exact ⟨rfl, gr_below HGR.out⟩
  · have c0 : w2.cell? ⟨b, 0, none⟩ = some (.int .u8 a2_0) := hR2.cell 0
    have c1 : w2.cell? ⟨b, 1, none⟩ = some (.int .u8 a2_1) := hR2.cell 1
    have lt := hR2.lt
    have HRR := Lib.hid hR2
    have HAA := Lib.hid hA
    have HGG := Lib.hid hG2
    clear hR2 hA hG2
    go_wp2_with fail
    rw [hve, hlev]
    go_loopw [12] (fun i wr => ∃ k : Nat, k ≤ 0 ∧ i = .int .i64 (2 - (k : Int)) ∧ RAt wr (g + 1) g (tabV v k zV) ∧ Row wr b 56 [.int .u8 a2_0, .int .u8 a2_1, .int .u8 a2_2, .int .u8 a2_3] ∧ w.grownBy wr none) (fun i _ => (intOf i).toNat)
    case atStart => exact ⟨0, by omega, rfl, HAA.out, HRR.out, HGG.out⟩
    case round =>
      clear c0 c1 lt HRR HAA HGG
      obtain ⟨k, hk, rfl, hA, hR, hG⟩ := hrel
      rcases (show k = 0 by omega) with rfl
      · clear hk
        rw [show (2 : Int) - ((0 : Nat) : Int) = 2 from rfl]
        have c0 : wr.cell? ⟨b, 0, none⟩ = some (.int .u8 a2_0) := hR.cell 0
        have c2 : wr.cell? ⟨b, 2, none⟩ = some (.int .u8 a2_2) := hR.cell 2
        have c3 : wr.cell? ⟨b, 3, none⟩ = some (.int .u8 a2_3) := hR.cell 3
        have lt := hR.lt
        have HAA := Lib.hid hA
        have HRR := Lib.hid hR
        have HGG := Lib.hid hG
        clear hA hR hG
        have MK := Lib.hid (fun W => Make_c (a1 % 17592186044416 / 262144 * 262144) fl (by unfold B64; omega) hflb W)
        have hpgL : pgL a1 0 = a1 % 17592186044416 / 262144 * 262144 := rfl
        have HPG := Lib.hid hpgL
        obtain ⟨x, hx⟩ : ∃ x, x = makeV (a1 % 17592186044416 / 262144 * 262144) fl := ⟨_, rfl⟩
        rw [← hx] at MK
        have hx64 : B64 x := by rw [hx]; exact make_64 _ _
        obtain ⟨bs, hbs⟩ : ∃ bs, bs = putV (tabV v 0 zV) (slotV v 0) 8 x := ⟨_, rfl⟩
        obtain ⟨cm1, cm2, cm3⟩ := come v x a1 fl kd pr HV.out hcan 0 (by omega) (by rw [hpgL]; exact hx) bs hbs
        have hsl : slotV v 0 = (524288 + 0) * 4096 + 8 * vpnV v 2 := rfl
        rw [hsl] at hbs
        have HBS := Lib.hid hbs
        have hvb := vpn_bd (n := 2) HV.out
        have VP := Lib.hid (fun W => Vpn_c v 2 HV.out (by unfold I64; omega) W)
        generalize tabV v 0 zV = cs at *
        generalize vpnV v 2 = vp at *
        obtain ⟨R, hR⟩ : ∃ R, R = walkV bs 9223372036855300096 0 pr kd v := ⟨_, rfl⟩
        obtain ⟨y, hy⟩ : ∃ y, y = toV bs 9223372036855300096 0 pr kd v := ⟨_, rfl⟩
        have TO := Lib.hid (fun (p g : Nat) W hW => to_at (p := p) (g := g) (bs := bs) zgood (by unfold I64; omega) (by unfold I64; omega) HV.out hR hy W hW)
        rw [← hR, ← hy] at cm1
        rw [← hR] at cm2 cm3
        have CM1 := Lib.hid cm1
        have CM2 := Lib.hid cm2
        have CM3 := Lib.hid cm3
        have MY := Lib.hid (fun W => rMay_c x kd pr 0 hx64 (by unfold I64; omega) (by unfold I64; omega) (by unfold B64; omega) W)
        have TB := Lib.hid (fun W => rTable_c x hx64 W)
        have PF := Lib.hid (fun W => PageFault_c kd v (by unfold I64; omega) W)
        unfold vFault at PF
        replace TO : Hid (∀ (p g : Nat) (W : World), RAt W p g bs → Calls Try.prog 12 #[.pointer (some ⟨p, 0, none⟩), .agg #[.int .u64 0, .int .u64 0, .int .u64 0, .int .u64 0, .int .u64 0, .int .u64 0, .int .u64 0, .int .u64 0, .int .u64 0, .int .u64 9223372036855300096, .int .u64 0, .int .u64 0], .int .i64 pr, .int .i64 kd, .int .u64 v] W fun e w' => e = .returned (.tuple #[.int .u64 y, .agg #[.bool R.isf, .int .i64 R.cause, .int .u64 R.val]]) ∧ W.grownBy w' none) := TO
        have HX64 := Lib.hid hx64
        unfold B64 at hx64
        clear hx hbs hR hy cm1 cm2 cm3 hsl hpgL
        go_wp2_with fail
        refine (MK.out _).mono ?_
        rintro e w' ⟨rfl, rfl⟩
        go_wp2_with fail
        refine (VP.out _).mono ?_
        rintro e w' ⟨rfl, rfl⟩
        go_wp2_with fail
        refine (Put_c _ _ cs _ 8 _ _ HAA.out (by omega) (by omega) HX64.out).mono ?_
        rintro e w3 ⟨rfl, hA3, hG3⟩
        replace hA3 : RAt w3 (g + 1) g bs := by rw [HBS.out]; exact hA3
        have hR3 := HRR.out.grown hG3 (some_ne (by omega))
        have hG4 : w.grownBy w3 none := gr_row (gr_trans (gr_none HGG.out _) hG3) (by rw [HB.out]; omega)
        clear HAA HRR HGG hG3 c0 c2 c3 lt
        have hgx := gr_alloc (gr_refl w3 none) (.cells #[.int .u64 0, .int .u64 0, .int .u64 0, .int .u64 0, .int .u64 0, .int .u64 0, .int .u64 0, .int .u64 0, .int .u64 0, .int .u64 9223372036855300096, .int .u64 0, .int .u64 0] 27)
        have hA5 := hA3.kept hgx
        have hR5 := hR3.grown hgx (by simp)
        have hG5 := gr_trans hG4 hgx
        have cr := Row.fresh w3 27 [.int .u64 0, .int .u64 0, .int .u64 0, .int .u64 0, .int .u64 0, .int .u64 0, .int .u64 0, .int .u64 0, .int .u64 0, .int .u64 9223372036855300096, .int .u64 0, .int .u64 0]
        replace cr : Row (w3.alloc (.cells #[.int .u64 0, .int .u64 0, .int .u64 0, .int .u64 0, .int .u64 0, .int .u64 0, .int .u64 0, .int .u64 0, .int .u64 0, .int .u64 9223372036855300096, .int .u64 0, .int .u64 0] 27)) w3.heap.size 27 [.int .u64 0, .int .u64 0, .int .u64 0, .int .u64 0, .int .u64 0, .int .u64 0, .int .u64 0, .int .u64 0, .int .u64 0, .int .u64 9223372036855300096, .int .u64 0, .int .u64 0] := cr
        go_upto_region 16 with (fail)
        clear hA3 hR3 hG4 hgx
        generalize w3.alloc (.cells #[.int .u64 0, .int .u64 0, .int .u64 0, .int .u64 0, .int .u64 0, .int .u64 0, .int .u64 0, .int .u64 0, .int .u64 0, .int .u64 9223372036855300096, .int .u64 0, .int .u64 0] 27) = U3 at *
        generalize w3.heap.size = q at *
        have c0 : U3.cell? ⟨b, 0, none⟩ = some (.int .u8 a2_0) := hR5.cell 0
        have c2 : U3.cell? ⟨b, 2, none⟩ = some (.int .u8 a2_2) := hR5.cell 2
        have c3 : U3.cell? ⟨b, 3, none⟩ = some (.int .u8 a2_3) := hR5.cell 3
        have lt := hR5.lt
        have lq := cr.lt
        have z0 : U3.cell? ⟨q, 0, none⟩ = some (.int .u64 0) := cr.cell 0
        have z1 : U3.cell? ⟨q, 1, none⟩ = some (.int .u64 0) := cr.cell 1
        have z2 : U3.cell? ⟨q, 2, none⟩ = some (.int .u64 0) := cr.cell 2
        have z3 : U3.cell? ⟨q, 3, none⟩ = some (.int .u64 0) := cr.cell 3
        have z4 : U3.cell? ⟨q, 4, none⟩ = some (.int .u64 0) := cr.cell 4
        have z5 : U3.cell? ⟨q, 5, none⟩ = some (.int .u64 0) := cr.cell 5
        have z6 : U3.cell? ⟨q, 6, none⟩ = some (.int .u64 0) := cr.cell 6
        have z7 : U3.cell? ⟨q, 7, none⟩ = some (.int .u64 0) := cr.cell 7
        have z8 : U3.cell? ⟨q, 8, none⟩ = some (.int .u64 0) := cr.cell 8
        have z9 : U3.cell? ⟨q, 9, none⟩ = some (.int .u64 9223372036855300096) := cr.cell 9
        have z10 : U3.cell? ⟨q, 10, none⟩ = some (.int .u64 0) := cr.cell 10
        have z11 : U3.cell? ⟨q, 11, none⟩ = some (.int .u64 0) := cr.cell 11
        have HAA := Lib.hid hA5
        have HGG := Lib.hid hG5
        clear hA5 hR5 hG5 cr
        go_wp2_with fail
        refine (TO.out _ _ _ HAA.out).mono ?_
        rintro e w5 ⟨rfl, hG⟩
        have hgy := gr_alloc (gr_trans HGG.out hG) (.cells #[.bool R.isf, .int .i64 R.cause, .int .u64 R.val] 38)
        have fr := new3 w5 38 (.bool R.isf) (.int .i64 R.cause) (.int .u64 R.val)
        clear hG HAA HGG c0 c2 c3 lt lq z0 z1 z2 z3 z4 z5 z6 z7 z8 z9 z10 z11 TO
        go_upto_region 19 with (fail)
        generalize w5.alloc (.cells #[.bool R.isf, .int .i64 R.cause, .int .u64 R.val] 38) = U5 at *
        generalize w5.heap.size = qf at *
        obtain ⟨f0, f1, f2⟩ := cells3 fr
        have lf := fr.lt
        have HFR := Lib.hid fr
        have HGR := Lib.hid hgy
        clear fr hgy
        have c1 := CM1.out
        have c2 := CM2.out
        have c3 := CM3.out
        clear CM1 CM2 CM3
        go_wp2_with fail
        refine (MY.out _).mono ?_
        rintro e w' ⟨rfl, rfl⟩
        cases hmy : mayV x kd pr 0
        · clear c1
          go_wp2_with fail
          refine (TB.out _).mono ?_
          rintro e w' ⟨rfl, rfl⟩
          cases htb : tableV x
          · have hr := c3 hmy (fun h => by rw [htb] at h; exact absurd h (by simp))
            subst hr
            replace f0 : U5.cell? ⟨qf, 0, none⟩ = some (.bool true) := f0
            replace f1 : U5.cell? ⟨qf, 1, none⟩ = some (.int .i64 (pfC kd)) := f1
            replace f2 : U5.cell? ⟨qf, 2, none⟩ = some (.int .u64 v) := f2
            have fr : Row U5 qf 38 [.bool true, .int .i64 (pfC kd), .int .u64 v] := HFR.out
            clear c2 c3 htb hmy HFR
            have E1 := fun W => eql_Fs true (pfC kd) v W
            generalize pfC kd = pf at *
            have HGG := Lib.hid HGR.out
            clear HGR
            go_wp2_with fail
            go_region_with (go_at_call 14; refine (PF.out _).mono ?_; rintro e w6 ⟨rfl, hG⟩; have hG2 : U5.grownBy w6 none := ⟨hG.os, hG.tape, hG.output, hG.size, hG.block⟩; have fr2 := fr.grown hG2 (by simp); obtain ⟨r0, r1, r2⟩ := cells3 fr2; have lr := fr2.lt; have HW := Lib.hid (gr_trans HGG.out hG2); clear hG hG2)
            all_goals
              go_wp2_with fail
              go_ret
              first
                | exact ⟨rfl, gr_below HW.out⟩
                | exact ⟨rfl, gr_below (gr_drew HW.out)⟩
          · have hr := c2 hmy htb (by omega)
            rw [hr] at f0
            clear c2 c3 htb hmy hr
            go_wp2_with fail
            go_ret
            exact ⟨rfl, gr_below HGR.out⟩
        · obtain ⟨k1, k2⟩ := c1 hmy
          clear c2 c3 hmy
          rw [HPG.out, show szV ((2 - 0 : Nat) : Int) = 1073741824 from rfl] at k2
          rw [k1] at f0
          clear k1
          subst k2
          go_wp2_with fail
          go_ret
          exact ⟨rfl, gr_below HGR.out⟩

theorem own : ownKnob Try.prog.godebug = none := by kernel_rfl
theorem laidOut : laidOutB Try.prog = true := by kernel_rfl

set_option maxRecDepth 100000 in
theorem lifted (os : Os) (started : os.Started) (H : Type) (enc : TypeId × Value → H) :
    ReturnsInHanded {} Try.checked os 5 .any (Rows.walkLevelsSpec.pre6 enc Try.prog Try.f5 Rows.walkLevelsRow.domain false) (Rows.walkLevelsSpec.post enc Try.prog Try.f5 false true false false) := by
  refine returnsInHanded_of_change (C := Try.checked) own started (by kernel_rfl) Try.func5
    (ChangeSpec.witness6 (enc := enc) (C := Try.checked) false ⟨#[], #[.int .u64 0, .int .u64 0, .agg #[.int .u8 0, .int .u8 0, .int .u8 0, .int .u8 0]], []⟩ 8 (by kernel_rfl) (by kernel_rfl) (by kernel_rfl) (by kernel_rfl)) ?_
  intro W base args ds gs before hval0 hW hcnd _
  have hval : ∀ (j : Nat) t v, Try.f5.params[j]? = some t → args[j]? = some v → Value.okWide Try.prog W .any base t v := hval0
  have hW' := hW
  obtain ⟨p, q, hA0, hV, rfl, hfz, hnd⟩ := hW
  have hA : DataW.TrodAll enc Try.prog W 0 (fun _ => true) true Try.f5.params.toList args.toList ds p := hA0
  rw [Try.params5] at hA hval
  obtain ⟨v0, vs0, d0, ds0, p0, q0, hargs, rfl, rfl, h0, r0⟩ := trodAll_cons hA
  obtain ⟨v1, vs1, d1, ds1, p1, q1, rfl, rfl, rfl, h1, r1⟩ := trodAll_cons r0
  obtain ⟨v2, vs2, d2, ds2, p2, q2, rfl, rfl, rfl, h2, r2⟩ := trodAll_cons r1
  obtain ⟨rfl, rfl, rfl⟩ := trodAll_nil r2
  obtain rfl : args = #[v0, v1, v2] := by cases args; simp_all
  obtain ⟨rfl, rfl⟩ := trodVars_none hV
  clear hA0 hval0 hA
  have k0 := h0
  have lt0 : ∀ x ∈ p0, x.block < W.heap.size := by obtain ⟨m, hm⟩ := k0; exact DataW.trod_lt m _ _ _ hm
  obtain ⟨a0, rfl, rfl, rfl, w0⟩ := open_int Try.underlying25 (hval 0 25 v0 rfl rfl) h0
  have k1 := h1
  have lt1 : ∀ x ∈ p1, x.block < W.heap.size := by obtain ⟨m, hm⟩ := k1; exact DataW.trod_lt m _ _ _ hm
  obtain ⟨a1, rfl, rfl, rfl, w1⟩ := open_int Try.underlying25 (hval 1 25 v1 rfl rfl) h1
  have k2 := h2
  have lt2 : ∀ x ∈ p2, x.block < W.heap.size := by obtain ⟨m, hm⟩ := k2; exact DataW.trod_lt m _ _ _ hm
  obtain ⟨xs2, rfl, l2, m2, f2⟩ := Op.open_struct Try.underlying56 (hval 2 56 v2 rfl rfl) h2
  rw [show Try.prog.cellsOf 56 = 4 from by kernel_rfl] at l2
  obtain _ | ⟨c2_0, xs2⟩ := xs2
  · simp at l2
  obtain _ | ⟨c2_1, xs2⟩ := xs2
  · simp at l2
  obtain _ | ⟨c2_2, xs2⟩ := xs2
  · simp at l2
  obtain _ | ⟨c2_3, xs2⟩ := xs2
  · simp at l2
  obtain _ | ⟨_, _⟩ := xs2
  rotate_left
  · simp at l2
  clear h2
  obtain ⟨y2_0, g2_0⟩ := f2 0 _ rfl
  replace g2_0 : DataW.trod enc Try.prog W 0 (fun _ => true) true m2 5 [c2_0] = some y2_0 := g2_0
  obtain ⟨a2_0, e2_0, _, w2_0⟩ := DataW.trod_int Try.underlying5 g2_0
  simp at e2_0; subst e2_0
  obtain ⟨y2_1, g2_1⟩ := f2 1 _ rfl
  replace g2_1 : DataW.trod enc Try.prog W 0 (fun _ => true) true m2 5 [c2_1] = some y2_1 := g2_1
  obtain ⟨a2_1, e2_1, _, w2_1⟩ := DataW.trod_int Try.underlying5 g2_1
  simp at e2_1; subst e2_1
  obtain ⟨y2_2, g2_2⟩ := f2 2 _ rfl
  replace g2_2 : DataW.trod enc Try.prog W 0 (fun _ => true) true m2 5 [c2_2] = some y2_2 := g2_2
  obtain ⟨a2_2, e2_2, _, w2_2⟩ := DataW.trod_int Try.underlying5 g2_2
  simp at e2_2; subst e2_2
  obtain ⟨y2_3, g2_3⟩ := f2 3 _ rfl
  replace g2_3 : DataW.trod enc Try.prog W 0 (fun _ => true) true m2 5 [c2_3] = some y2_3 := g2_3
  obtain ⟨a2_3, e2_3, _, w2_3⟩ := DataW.trod_int Try.underlying5 g2_3
  simp at e2_3; subst e2_3
  refine (walk W a0 w0 a1 w1 a2_0 w2_0 a2_1 w2_1 a2_2 w2_2 a2_3 w2_3).mono fun e W' ⟨he, bel⟩ => ?_
  subst he
  exact ⟨_, rfl, _, _, _, [], _, [], hW', trodAll_mk1 (shut_bool Try.underlying4 _), (trodAll_cons_mk (Below.trod laidOut (by kernel_rfl) (of_decide_eq_true (by kernel_rfl)) k0 bel lt0) (trodAll_cons_mk (Below.trod laidOut (by kernel_rfl) (of_decide_eq_true (by kernel_rfl)) k1 bel lt1) (trodAll_cons_mk (Below.trod laidOut (by kernel_rfl) (of_decide_eq_true (by kernel_rfl)) k2 bel lt2) trodAll_mk0))), rfl, bel.frame _, fun h => by cases h⟩

theorem over : Rows.walkLevelsRow.holds Try.pinned (OpenSpec.ofChange Rows.walkLevelsSpec) :=
  OpenClaim.holds_of_wide 5 Try.f5 rfl rfl rfl rfl rfl rfl rfl ⟨rfl, rfl, rfl, rfl, rfl⟩ rfl rfl rfl rfl rfl (by kernel_rfl) Try.func5 (by kernel_rfl)
    (of_decide_eq_true (by kernel_rfl)) (by unfold Func.isWrapper; first | (rw [if_pos (by decide +kernel)]; kernel_rfl) | (rw [if_neg (by decide +kernel)]; exact ⟨rfl, rfl⟩))
    (fun os started H enc _ => lifted os started H enc)

/-- The statement. -/
theorem proved : Rows.WalkLevelsSaid := over
#print axioms proved

end Go.Proofs.Ytaeloplmcinagaa.walkLevels
