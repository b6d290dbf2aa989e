/-
  What Do of package csr answers: a contract over the program's translation.
  Conditions: the arguments are numbers of their kinds.
-/
import Derived.Test.YtlbhkmigbnhngaaCsrE
import Derived.Test.YtlbhkmigbnhngaaCsrI
import Derived.Test.YtlbhkmigbnhngaaCsrLw
namespace Go.Proofs.Ytlbhkmigbnhngaa
open Go Go.RowKit Go.Maps W M D A C
set_option linter.unusedVariables false
set_option linter.unusedSimpArgs false

abbrev J64 (n : Int) : Prop := -9223372036854775808 ≤ n ∧ n ≤ 9223372036854775807
/-- The three results. -/
def vD (c : Cs) (t : Int) (ok : Bool) : Value := .tuple #[vC c, .int .u64 t, .bool ok]
theorem ret_D {fn : Func} {p a1 a2 : Tmp} (h : fn.results = #[.cell p 24, .tmp a1, .tmp a2]) {R : Ending → World → Prop} {a : Act} {w : World} {g : Nat} {c : Cs} {t : Int} {ok : Bool}
    (hp : a.tmps.getD p undef = .pointer (some ⟨g, 0, none⟩)) (h1 : a.tmps.getD a1 undef = .int .u64 t) (h2 : a.tmps.getD a2 undef = .bool ok) (hd : a.defers = []) (hR : Row w g 24 (lC c)) (hl : c.length = 12) (hQ : R (.returned (vD c t ok)) w) :
    bodyPost Try.prog fn R .ret a w := by
  have la : (loadVar 24 ⟨g, 0, none⟩).run Try.prog w = .ok (vC c) w := run_loadVar_row w g _ 24 (lC c).toArray (0, 0) _ hR Try.underlying24 rfl (lC_size hl)
  refine bodyPost_ret (v := vD c t ok) ?_ hd hQ
  have hp' : a.tmps[p]?.getD undef = .pointer (some ⟨g, 0, none⟩) := by simpa using hp
  have h1' : a.tmps[a1]?.getD undef = .int .u64 t := by simpa using h1
  have h2' : a.tmps[a2]?.getD undef = .bool ok := by simpa using h2
  simp [results, h, hp', h1', h2', asAddr, la, vD]
theorem cells3 {w : World} {g : Nat} {t : TypeId} {v0 v1 v2 : Value} (h : Row w g t [v0, v1, v2]) :
    w.cell? ⟨g, 0, none⟩ = some v0 ∧ w.cell? ⟨g, 1, none⟩ = some v1 ∧ w.cell? ⟨g, 2, none⟩ = some v2 := ⟨h.cell 0, h.cell 1, h.cell 2⟩
set_option maxRecDepth 100000 in
set_option maxHeartbeats 40000000 in
theorem Do_c (c : Cs) (hc : C.Good c) (p t o rd r r2 n ln b : Int) (hp : J64 p) (ht : B64 t) (ho : J64 o) (hr1 : J64 r) (hn : J64 n) (hb : B64 b) (w : World) :
    Calls Try.prog 20 #[vC c, .int .i64 p, .int .u64 t, .agg #[.int .i64 o, .int .i64 rd, .int .i64 r, .int .i64 r2, .int .i64 n, .int .i64 ln], .int .u64 b] w
      fun e w' => e = .returned (vD (C.doV c p t o r n b) (toldV c p t o r n) (okV c p o r n)) ∧ w.grownBy w' none := by
  have HC := Lib.hid hc
  obtain ⟨a0, a1, a2, a3, a4, a5, a6, a7, a8, a9, a10, a11, hcc⟩ := twelve hc.1
  have hv := vC_12 a0 a1 a2 a3 a4 a5 a6 a7 a8 a9 a10 a11
  rw [← hcc] at hv
  rw [hv]
  have HV := Lib.hid hv
  have ECC := Lib.hid hcc
  have HR := Lib.hid (((Row.fresh w 24 (lC c)).alloc (.cells #[.int .i64 o, .int .i64 rd, .int .i64 r, .int .i64 r2, .int .i64 n, .int .i64 ln] 35)).alloc (.cells #[.int .u64 0, .int .u64 0, .int .u64 0, .int .u64 0, .int .u64 0, .int .u64 0, .int .u64 0, .int .u64 0, .int .u64 0, .int .u64 0, .int .u64 0, .int .u64 0] 24))
  have HI := Lib.hid ((freshB w (.cells (lC c).toArray 24) 35 [.int .i64 o, .int .i64 rd, .int .i64 r, .int .i64 r2, .int .i64 n, .int .i64 ln]).alloc (.cells #[.int .u64 0, .int .u64 0, .int .u64 0, .int .u64 0, .int .u64 0, .int .u64 0, .int .u64 0, .int .u64 0, .int .u64 0, .int .u64 0, .int .u64 0, .int .u64 0] 24))
  have HZ := Lib.hid (show Row (((w.alloc (.cells (lC c).toArray 24)).alloc (.cells #[.int .i64 o, .int .i64 rd, .int .i64 r, .int .i64 r2, .int .i64 n, .int .i64 ln] 35)).alloc (.cells #[.int .u64 0, .int .u64 0, .int .u64 0, .int .u64 0, .int .u64 0, .int .u64 0, .int .u64 0, .int .u64 0, .int .u64 0, .int .u64 0, .int .u64 0, .int .u64 0] 24)) (w.heap.size + 1 + 1) 24 zC by have := freshB (w.alloc (.cells (lC c).toArray 24)) (.cells #[.int .i64 o, .int .i64 rd, .int .i64 r, .int .i64 r2, .int .i64 n, .int .i64 ln] 35) 24 zC; rw [show ((w.alloc (.cells (lC c).toArray 24)).heap.size) = w.heap.size + 1 by simp] at this; exact this)
  have HGR := Lib.hid (gr_alloc (gr_alloc (gr_alloc (gr_refl w none) (.cells (lC c).toArray 24)) (.cells #[.int .i64 o, .int .i64 rd, .int .i64 r, .int .i64 r2, .int .i64 n, .int .i64 ln] 35)) (.cells #[.int .u64 0, .int .u64 0, .int .u64 0, .int .u64 0, .int .u64 0, .int .u64 0, .int .u64 0, .int .u64 0, .int .u64 0, .int .u64 0, .int .u64 0, .int .u64 0] 24))
  rw [show (lC c).toArray = #[.int .u64 a0, .int .u64 a1, .int .u64 a2, .int .u64 a3, .int .u64 a4, .int .u64 a5, .int .u64 a6, .int .u64 a7, .int .u64 a8, .int .u64 a9, .int .u64 a10, .int .u64 a11] by rw [hcc]; rfl] at HR HI HZ HGR
  clear hv hcc hc
  unfold B64 J64 at *
  go_enter Try.func20, Try.ntmps20
  go_wp2_with fail
  generalize ((w.alloc (.cells #[.int .u64 a0, .int .u64 a1, .int .u64 a2, .int .u64 a3, .int .u64 a4, .int .u64 a5, .int .u64 a6, .int .u64 a7, .int .u64 a8, .int .u64 a9, .int .u64 a10, .int .u64 a11] 24)).alloc (.cells #[.int .i64 o, .int .i64 rd, .int .i64 r, .int .i64 r2, .int .i64 n, .int .i64 ln] 35)).alloc (.cells #[.int .u64 0, .int .u64 0, .int .u64 0, .int .u64 0, .int .u64 0, .int .u64 0, .int .u64 0, .int .u64 0, .int .u64 0, .int .u64 0, .int .u64 0, .int .u64 0] 24) = V at *
  obtain ⟨q, hq⟩ : ∃ q, w.heap.size = q := ⟨_, rfl⟩
  rw [hq] at HR HI HZ ⊢
  have HQ := Lib.hid (show w.heap.size ≤ q by omega)
  clear hq
  rename_i Q' K hK
  have tail : ∀ (U : World) (bi : Nat) (m pf : Value) (x y ok : Bool), Row U q 24 (lC c) → Row U (q + 1) 35 [.int .i64 o, .int .i64 rd, .int .i64 r, .int .i64 r2, .int .i64 n, .int .i64 ln] → Row U (q + 1 + 1) 24 zC → Row U bi 60 [pf, .bool x, .bool y] → w.grownBy U none → ((ok = false ∧ A.look tI o = none ∧ x = false) ∨ (ok = true ∧ ∃ f, A.look tI o = some (f, x, y) ∧ ∀ W, Does W pf f)) →
      Exit.then K Q' Exit.normal { tmps := #[.agg #[.int .u64 a0, .int .u64 a1, .int .u64 a2, .int .u64 a3, .int .u64 a4, .int .u64 a5, .int .u64 a6, .int .u64 a7, .int .u64 a8, .int .u64 a9, .int .u64 a10, .int .u64 a11], .int .i64 p, .int .u64 t, .agg #[.int .i64 o, .int .i64 rd, .int .i64 r, .int .i64 r2, .int .i64 n, .int .i64 ln], .int .u64 b, .pointer (some ⟨q, 0, none⟩), undef, undef, .pointer (some ⟨q + 1, 0, none⟩), undef, .pointer (some ⟨q + 1 + 1, 0, none⟩), .int .u64 0, .bool ok, .pointer (some ⟨bi, 0, none⟩), undef, undef, undef, .tuple #[.agg #[pf, .bool x, .bool y], .bool ok], m, .pointer (some ⟨q + 1, 0, none⟩), .int .i64 o, .tuple #[.agg #[pf, .bool x, .bool y], .bool ok], .agg #[pf, .bool x, .bool y], .bool ok, undef, undef, undef, undef, undef, undef, undef, undef, undef, undef, undef, undef, undef, undef, undef, undef, undef, undef, undef, undef, undef, undef, undef, undef, undef, undef, undef, undef, undef, undef, undef, undef, undef, undef, undef, undef, undef, undef, undef, undef, undef, undef, undef], defers := [] } U := by
    clear HR HI HZ HGR
    intro U bi m pf x y ok R0 I0 Z0 B0 G0 hF
    rcases hF with ⟨rfl, e0, rfl⟩ | ⟨rfl, f, e0, hD⟩
    · have EO := Lib.hid (show okV c p o r n = false by rw [okV, isI, e0]; rfl)
      have ED := Lib.hid (show C.doV c p t o r n b = c by rw [C.doV, if_neg (by rw [EO.out]; simp)])
      have ET := Lib.hid (show toldV c p t o r n = 0 by rw [toldV, if_neg (by rw [EO.out]; simp)])
      clear e0
      have RR0 := R0
      rw [ECC.out] at RR0
      obtain ⟨k0_0, k0_1, k0_2, k0_3, k0_4, k0_5, k0_6, k0_7, k0_8, k0_9, k0_10, k0_11⟩ := cells12 RR0
      have i0_0 : U.cell? ⟨q + 1, 0, none⟩ = some (.int .i64 o) := I0.cell 0
      have i0_2 : U.cell? ⟨q + 1, 2, none⟩ = some (.int .i64 r) := I0.cell 2
      have i0_4 : U.cell? ⟨q + 1, 4, none⟩ = some (.int .i64 n) := I0.cell 4
      have b0_0 : U.cell? ⟨bi, 0, none⟩ = some (pf) := B0.cell 0
      have b0_1 : U.cell? ⟨bi, 1, none⟩ = some (.bool false) := B0.cell 1
      have b0_2 : U.cell? ⟨bi, 2, none⟩ = some (.bool y) := B0.cell 2
      obtain ⟨z0_0, z0_1, z0_2, z0_3, z0_4, z0_5, z0_6, z0_7, z0_8, z0_9, z0_10, z0_11⟩ := cells12 Z0
      have zf0 := Z0.free
      go_wp2_with fail
      exact ret_D rfl rfl rfl rfl rfl (c := c) (by rw [ECC.out]; exact put12 Z0 rfl _ _ _ _ _ _ _ _ _ _ _ _) HC.out.1 ⟨by rw [ED.out, ET.out, EO.out], gr12 G0 (Nat.le_succ_of_le (Nat.le_succ_of_le HQ.out)) _ _ _ _ _ _ _ _ _ _ _ _⟩
    · have EI := Lib.hid (show isI o = true by rw [isI, e0]; rfl)
      have EW := Lib.hid (show wrV o r = (x || !(r == 0)) by rw [wrV, e0])
      have EF := Lib.hid (show fV o = f by funext a b; rw [fV, e0])
      have EY := Lib.hid (show yV o r b = (if y = true then IntKind.u64.wrap r else b) by rw [yV, e0])
      clear e0
      have hM := Lib.hid (fun W wv => May_c c HC.out n p wv hn hp W)
      have hRd := Lib.hid (fun W => Read_c c HC.out n t hn ht W)
      rw [HV.out] at hM hRd
      cases x with
      | true =>
        have EW2 := Lib.hid (show wrV o r = true by rw [EW.out]; rfl)
        have RR0 := R0
        rw [ECC.out] at RR0
        obtain ⟨k0_0, k0_1, k0_2, k0_3, k0_4, k0_5, k0_6, k0_7, k0_8, k0_9, k0_10, k0_11⟩ := cells12 RR0
        have i0_0 : U.cell? ⟨q + 1, 0, none⟩ = some (.int .i64 o) := I0.cell 0
        have i0_2 : U.cell? ⟨q + 1, 2, none⟩ = some (.int .i64 r) := I0.cell 2
        have i0_4 : U.cell? ⟨q + 1, 4, none⟩ = some (.int .i64 n) := I0.cell 4
        have b0_0 : U.cell? ⟨bi, 0, none⟩ = some (pf) := B0.cell 0
        have b0_1 : U.cell? ⟨bi, 1, none⟩ = some (.bool true) := B0.cell 1
        have b0_2 : U.cell? ⟨bi, 2, none⟩ = some (.bool y) := B0.cell 2
        go_wp2_with fail
        refine (hM.out _ true).mono ?_
        rintro e w1 ⟨rfl, hG⟩
        have R1 := Row.grown R0 hG (by simp)
        have I1 := Row.grown I0 hG (by simp)
        have Z1 := Row.grown Z0 hG (by simp)
        have B1 := Row.grown B0 hG (by simp)
        have G1 := gr_trans G0 hG
        have EM := Lib.hid (show okV c p o r n = mayV c n p true by rw [okV, EI.out, EW2.out, Bool.true_and])
        clear RR0 k0_0 k0_1 k0_2 k0_3 k0_4 k0_5 k0_6 k0_7 k0_8 k0_9 k0_10 k0_11 i0_0 i0_2 i0_4 b0_0 b0_1 b0_2
        clear hG R0 I0 Z0 B0 G0
        have RR1 := R1
        rw [ECC.out] at RR1
        obtain ⟨k1_0, k1_1, k1_2, k1_3, k1_4, k1_5, k1_6, k1_7, k1_8, k1_9, k1_10, k1_11⟩ := cells12 RR1
        have i1_0 : w1.cell? ⟨q + 1, 0, none⟩ = some (.int .i64 o) := I1.cell 0
        have i1_2 : w1.cell? ⟨q + 1, 2, none⟩ = some (.int .i64 r) := I1.cell 2
        have i1_4 : w1.cell? ⟨q + 1, 4, none⟩ = some (.int .i64 n) := I1.cell 4
        have b1_0 : w1.cell? ⟨bi, 0, none⟩ = some (pf) := B1.cell 0
        have b1_1 : w1.cell? ⟨bi, 1, none⟩ = some (.bool true) := B1.cell 1
        have b1_2 : w1.cell? ⟨bi, 2, none⟩ = some (.bool y) := B1.cell 2
        generalize mayV c n p true = mv at *
        cases mv with
        | false =>
          have ED := Lib.hid (show C.doV c p t o r n b = c by rw [C.doV, if_neg (by rw [EM.out]; simp)])
          have ET := Lib.hid (show toldV c p t o r n = 0 by rw [toldV, if_neg (by rw [EM.out]; simp)])
          obtain ⟨z1_0, z1_1, z1_2, z1_3, z1_4, z1_5, z1_6, z1_7, z1_8, z1_9, z1_10, z1_11⟩ := cells12 Z1
          have zf1 := Z1.free
          go_wp2_with fail
          exact ret_D rfl rfl rfl rfl rfl (c := c) (by rw [ECC.out]; exact put12 Z1 rfl _ _ _ _ _ _ _ _ _ _ _ _) HC.out.1 ⟨by rw [ED.out, ET.out, EM.out], gr12 G1 (Nat.le_succ_of_le (Nat.le_succ_of_le HQ.out)) _ _ _ _ _ _ _ _ _ _ _ _⟩
        | true =>
          have ET := Lib.hid (show toldV c p t o r n = readV c n t by rw [toldV, if_pos (by rw [EM.out])])
          go_wp2_with fail
          refine (hRd.out _).mono ?_
          rintro e w2 ⟨rfl, hG⟩
          have R2 := Row.grown R1 hG (by simp)
          have I2 := Row.grown I1 hG (by simp)
          have Z2 := Row.grown Z1 hG (by simp)
          have B2 := Row.grown B1 hG (by simp)
          have G2 := gr_trans G1 hG
          clear RR1 k1_0 k1_1 k1_2 k1_3 k1_4 k1_5 k1_6 k1_7 k1_8 k1_9 k1_10 k1_11 i1_0 i1_2 i1_4 b1_0 b1_1 b1_2
          clear hG R1 I1 Z1 B1 G1
          have RR2 := R2
          rw [ECC.out] at RR2
          obtain ⟨k2_0, k2_1, k2_2, k2_3, k2_4, k2_5, k2_6, k2_7, k2_8, k2_9, k2_10, k2_11⟩ := cells12 RR2
          have i2_0 : w2.cell? ⟨q + 1, 0, none⟩ = some (.int .i64 o) := I2.cell 0
          have i2_2 : w2.cell? ⟨q + 1, 2, none⟩ = some (.int .i64 r) := I2.cell 2
          have i2_4 : w2.cell? ⟨q + 1, 4, none⟩ = some (.int .i64 n) := I2.cell 4
          have b2_0 : w2.cell? ⟨bi, 0, none⟩ = some (pf) := B2.cell 0
          have b2_1 : w2.cell? ⟨bi, 1, none⟩ = some (.bool true) := B2.cell 1
          have b2_2 : w2.cell? ⟨bi, 2, none⟩ = some (.bool y) := B2.cell 2
          have hT2 := read_bd HC.out n ht
          have HT2 := Lib.hid hT2
          have ED := Lib.hid (show C.doV c p t o r n b = writeV c n (f (readV c n t) (yV o r b)) by rw [C.doV, if_pos ⟨by rw [EM.out], EW2.out⟩, EF.out])
          have hY := Lib.hid (y_bd (o := o) (r := r) (b := b) hb)
          obtain ⟨kk, cap, rfl, hop, hbd, hc⟩ := hD w2
          unfold Opens at hop
          have HDo := Lib.hid (fun W (hW : Cel w2 W) => hc W hW (readV c n t) (yV o r b) HT2.out hY.out)
          have hbz := hbd (readV c n t) (yV o r b) HT2.out hY.out
          have hWr := Lib.hid (fun W => Write_c c HC.out n (f (readV c n t) (yV o r b)) hn hbz W)
          have hGW := write_good HC.out n hbz
          rw [HV.out] at hWr
          obtain ⟨d0, d1, d2, d3, d4, d5, d6, d7, d8, d9, d10, d11, ed⟩ := twelve hGW.1
          rw [ed, vC_12] at hWr
          rw [ed] at ED
          rw [EY.out] at HDo hWr hY hbz
          generalize readV c n t = tv at *
          unfold B64 at hT2 hbz
          clear hc hbd ed hGW hD
          cases y with
          | true =>
            rw [if_pos rfl] at HDo hWr hY hbz
            clear EY
            go_wp2_with fail
            clear k2_0 k2_1 k2_2 k2_3 k2_4 k2_5 k2_6 k2_7 k2_8 k2_9 k2_10 k2_11 i2_0 i2_2 i2_4 b2_0 b2_1 b2_2
            generalize f tv (IntKind.u64.wrap r) = fz at *
            refine wp_region_held_drew (S := fun w' => Row w' q 24 (lC [a0, a1, a2, a3, a4, a5, a6, a7, a8, a9, a10, a11]) ∧ Row w' bi 60 [.func (.func kk) #[] cap, .bool true, .bool true]) (by kernel_rfl) ?_ (fun hHeld => ?_)
            · exact ⟨Row.grown RR2 (gr_drew (gr_refl _ none)) (by simp), Row.grown B2 (gr_drew (gr_refl _ none)) (by simp)⟩
            refine wpAnyH_take (i := 0) (oi := { dst := some 58, op := Op.load 24 (Operand.tmp 5), type := 24, pos := "do.go:43", after := #[], guard := none }) (v := ?_) rfl (by kernel_rfl) (by kernel_rfl) (by kernel_rfl) (fun _ _ _ h => h) (Or.inl ⟨by rfl, ?_⟩) (by assumption) ?_
            rotate_left
            · (intro w hSw; (try dsimp only at hSw); (obtain ⟨RR2, B2⟩ := hSw); obtain ⟨k0, k1, k2, k3, k4, k5, k6, k7, k8, k9, k10, k11⟩ := cells12 RR2; go_simp; try with_reducible rfl)
            try simp only [Act.put, List.setIfInBounds_toArray, List.set_cons_zero, List.set_cons_succ]
            refine wpAnyH_take (i := 1) (oi := { dst := some 59, op := Op.move (Operand.tmp 14), type := 3, pos := "do.go:43", after := #[], guard := none }) (v := ?_) rfl (by kernel_rfl) (by kernel_rfl) (by kernel_rfl) (fun _ _ _ h => h) (Or.inl ⟨by rfl, ?_⟩) (by assumption) ?_
            rotate_left
            · (intro w hSw; (try dsimp only at hSw); go_simp; try with_reducible rfl)
            try simp only [Act.put, List.setIfInBounds_toArray, List.set_cons_zero, List.set_cons_succ]
            refine wpAnyH_take (i := 2) (oi := { dst := some 60, op := Op.fieldAddr 60 (Operand.tmp 13) 0, type := 0, pos := "do.go:43", after := #[], guard := none }) (v := ?_) rfl (by kernel_rfl) (by kernel_rfl) (by kernel_rfl) (fun _ _ _ h => h) (Or.inl ⟨by rfl, ?_⟩) (by assumption) ?_
            rotate_left
            · (intro w hSw; (try dsimp only at hSw); go_simp; try with_reducible rfl)
            try simp only [Act.put, List.setIfInBounds_toArray, List.set_cons_zero, List.set_cons_succ]
            refine wpAnyH_take (i := 3) (oi := { dst := some 61, op := Op.load 43 (Operand.tmp 60), type := 43, pos := "do.go:43", after := #[{ on := 2, ground := Ground.data }], guard := none }) (v := ?_) rfl (by kernel_rfl) (by kernel_rfl) (by kernel_rfl) (fun _ _ _ h => h) (Or.inl ⟨by rfl, ?_⟩) (by assumption) ?_
            rotate_left
            · (intro w hSw; (try dsimp only at hSw); (obtain ⟨RR2, B2⟩ := hSw); obtain ⟨k0, k1, k2⟩ := cells3 B2; go_simp; try with_reducible rfl)
            try simp only [Act.put, List.setIfInBounds_toArray, List.set_cons_zero, List.set_cons_succ]
            refine wpAnyH_take (i := 4) (oi := { dst := some 62, op := Op.move (Operand.tmp 11), type := 22, pos := "do.go:43", after := #[], guard := none }) (v := ?_) rfl (by kernel_rfl) (by kernel_rfl) (by kernel_rfl) (fun _ _ _ h => h) (Or.inl ⟨by rfl, ?_⟩) (by assumption) ?_
            rotate_left
            · (intro w hSw; (try dsimp only at hSw); go_simp; try with_reducible rfl)
            try simp only [Act.put, List.setIfInBounds_toArray, List.set_cons_zero, List.set_cons_succ]
            refine wpAnyH_take (i := 5) (oi := { dst := some 63, op := Op.move (Operand.tmp 16), type := 22, pos := "do.go:43", after := #[], guard := none }) (v := ?_) rfl (by kernel_rfl) (by kernel_rfl) (by kernel_rfl) (fun _ _ _ h => h) (Or.inl ⟨by rfl, ?_⟩) (by assumption) ?_
            rotate_left
            · (intro w hSw; (try dsimp only at hSw); go_simp; try with_reducible rfl)
            try simp only [Act.put, List.setIfInBounds_toArray, List.set_cons_zero, List.set_cons_succ]
            refine wpAnyH_take (i := 8) (oi := { dst := some 66, op := Op.move (Operand.tmp 11), type := 22, pos := "do.go:43", after := #[{ on := 9, ground := Ground.gcOnly Departure.lateStores }], guard := none }) (v := ?_) rfl (by kernel_rfl) (by kernel_rfl) (by kernel_rfl) (fun _ _ _ h => h) (Or.inl ⟨by rfl, ?_⟩) (by assumption) ?_
            rotate_left
            · (intro w hSw; (try dsimp only at hSw); go_simp; try with_reducible rfl)
            try simp only [Act.put, List.setIfInBounds_toArray, List.set_cons_zero, List.set_cons_succ]
            refine wpAnyH_ready (rs := [6]) (by kernel_rfl) (by simp) ?_
            refine (AllReadyH.cons (o := { dst := some 64, op := Op.call { callee := Callee.value (Operand.tmp 61), args := #[Operand.tmp 62, Operand.tmp 63], argTypes := #[22, 22] }, type := 22, pos := "do.go:43", after := #[{ on := 3, ground := Ground.data }, { on := 4, ground := Ground.data }, { on := 5, ground := Ground.data }], guard := none }) rfl (fun K hK => ?_) AllReadyH.nil)
            go_simp
            refine (HDo.out _ (cel_gr (gr_drew (gr_refl w2 none)))).mono ?_
            rintro e w3 ⟨rfl, hw3⟩
            have hg : w2.drew.grownBy w3 none := hw3 ▸ gr_refl _ _
            have Z3 := Row.grown (Row.grown Z2 (gr_drew (gr_refl w2 none)) (by simp)) hg (by simp)
            have G3 := gr_trans (gr_drew G2) hg
            clear hw3
            go_wp2_with fail
            refine hK.out _ _ ?_ (fun hHeld => ?_)
            · exact ⟨Row.grown hHeld.1 hg (by simp), Row.grown hHeld.2 hg (by simp)⟩
            clear hK K
            try simp only [Act.put, List.setIfInBounds_toArray, List.set_cons_zero, List.set_cons_succ]
            refine wpAnyH_ready (rs := [7]) (by kernel_rfl) (by simp) ?_
            refine (AllReadyH.cons (o := { dst := some 65, op := Op.call { callee := Callee.value (Operand.func 14), args := #[Operand.tmp 58, Operand.tmp 59, Operand.tmp 64], argTypes := #[24, 3, 22] }, type := 24, pos := "do.go:43", after := #[{ on := 0, ground := Ground.data }, { on := 1, ground := Ground.data }, { on := 6, ground := Ground.data }, { on := 6, ground := Ground.chain }], guard := none }) rfl (fun K hK => ?_) AllReadyH.nil)
            go_simp
            go_at_call 14
            refine (hWr.out _).mono ?_
            rintro e w4 ⟨rfl, hg⟩
            have Z4 := Row.grown Z3 hg (by simp)
            have G4 := gr_trans G3 hg
            go_wp2_with fail
            refine hK.out _ _ ?_ (fun hHeld => ?_)
            · exact ⟨Row.grown hHeld.1 hg (by simp), Row.grown hHeld.2 hg (by simp)⟩
            clear hK K
            try simp only [Act.put, List.setIfInBounds_toArray, List.set_cons_zero, List.set_cons_succ]
            refine wpAnyH_ready (rs := [9]) (by kernel_rfl) (by simp) ?_
            refine (AllReadyH.cons (o := { dst := none, op := Op.store 24 (Operand.tmp 10) (Operand.tmp 65), type := 0, pos := "do.go:43", after := #[{ on := 7, ground := Ground.data }, { on := 7, ground := Ground.chain }, { on := 0, ground := Ground.phase }, { on := 1, ground := Ground.phase }, { on := 2, ground := Ground.phase }, { on := 3, ground := Ground.phase }, { on := 4, ground := Ground.phase }, { on := 5, ground := Ground.phase }, { on := 6, ground := Ground.phase }, { on := 7, ground := Ground.phase }, { on := 8, ground := Ground.textOnly Departure.lateStores }], guard := none }) rfl (fun K hK => ?_) AllReadyH.nil)
            obtain ⟨z0, z1, z2, z3, z4, z5, z6, z7, z8, z9, z10, z11⟩ := cells12 Z4
            have zf := Z4.free
            have n1 : q ≠ q + 1 + 1 := by omega
            have n2 : bi ≠ q + 1 + 1 := Row.apart hHeld.2 Z4 (by decide)
            go_simp
            skip
            refine hK.out _ _ ?_ (fun hHeld => ?_)
            · exact ⟨oth12 hHeld.1 n1 _ _ _ _ _ _ _ _ _ _ _ _, oth12 hHeld.2 n2 _ _ _ _ _ _ _ _ _ _ _ _⟩
            clear hK K
            try simp only [Act.put, List.setIfInBounds_toArray, List.set_cons_zero, List.set_cons_succ]
            refine wpAnyH_take (i := 10) (oi := { dst := some 11, op := Op.assign (Operand.tmp 66), type := 22, pos := "do.go:43", after := #[{ on := 8, ground := Ground.data }, { on := 9, ground := Ground.chain }, { on := 0, ground := Ground.phase }, { on := 1, ground := Ground.phase }, { on := 2, ground := Ground.phase }, { on := 3, ground := Ground.phase }, { on := 4, ground := Ground.phase }, { on := 5, ground := Ground.phase }, { on := 6, ground := Ground.phase }, { on := 7, ground := Ground.phase }, { on := 8, ground := Ground.phase }, { on := 9, ground := Ground.phase }], guard := none }) (v := ?_) rfl (by kernel_rfl) (by kernel_rfl) (by kernel_rfl) (fun _ _ _ h => h) (Or.inl ⟨by rfl, ?_⟩) (by assumption) ?_
            rotate_left
            · (intro w hSw; (try dsimp only at hSw); go_simp; try with_reducible rfl)
            try simp only [Act.put, List.setIfInBounds_toArray, List.set_cons_zero, List.set_cons_succ]
            refine wpAnyH_take (i := 11) (oi := { dst := some 12, op := Op.assign (Operand.const (Value.bool true)), type := 4, pos := "do.go:43", after := #[{ on := 10, ground := Ground.chain }, { on := 0, ground := Ground.phase }, { on := 1, ground := Ground.phase }, { on := 2, ground := Ground.phase }, { on := 3, ground := Ground.phase }, { on := 4, ground := Ground.phase }, { on := 5, ground := Ground.phase }, { on := 6, ground := Ground.phase }, { on := 7, ground := Ground.phase }, { on := 8, ground := Ground.phase }, { on := 9, ground := Ground.phase }, { on := 10, ground := Ground.phase }], guard := none }) (v := ?_) rfl (by kernel_rfl) (by kernel_rfl) (by kernel_rfl) (fun _ _ _ h => h) (Or.inl ⟨by rfl, ?_⟩) (by assumption) ?_
            rotate_left
            · (intro w hSw; (try dsimp only at hSw); go_simp; try with_reducible rfl)
            try simp only [Act.put, List.setIfInBounds_toArray, List.set_cons_zero, List.set_cons_succ]
            refine wpAnyH_done (by kernel_rfl) ?_ _
            go_wp2_with fail
            exact ret_D rfl rfl rfl rfl rfl (c := [d0, d1, d2, d3, d4, d5, d6, d7, d8, d9, d10, d11]) (put12 Z4 rfl _ _ _ _ _ _ _ _ _ _ _ _) rfl ⟨by rw [ED.out, ET.out, EM.out], gr12 G4 (Nat.le_succ_of_le (Nat.le_succ_of_le HQ.out)) _ _ _ _ _ _ _ _ _ _ _ _⟩
          | false =>
            rw [if_neg (by simp)] at HDo hWr hY hbz
            clear EY
            go_wp2_with fail
            clear k2_0 k2_1 k2_2 k2_3 k2_4 k2_5 k2_6 k2_7 k2_8 k2_9 k2_10 k2_11 i2_0 i2_2 i2_4 b2_0 b2_1 b2_2
            generalize f tv b = fz at *
            refine wp_region_held_drew (S := fun w' => Row w' q 24 (lC [a0, a1, a2, a3, a4, a5, a6, a7, a8, a9, a10, a11]) ∧ Row w' bi 60 [.func (.func kk) #[] cap, .bool true, .bool false]) (by kernel_rfl) ?_ (fun hHeld => ?_)
            · exact ⟨Row.grown RR2 (gr_drew (gr_refl _ none)) (by simp), Row.grown B2 (gr_drew (gr_refl _ none)) (by simp)⟩
            refine wpAnyH_take (i := 0) (oi := { dst := some 58, op := Op.load 24 (Operand.tmp 5), type := 24, pos := "do.go:43", after := #[], guard := none }) (v := ?_) rfl (by kernel_rfl) (by kernel_rfl) (by kernel_rfl) (fun _ _ _ h => h) (Or.inl ⟨by rfl, ?_⟩) (by assumption) ?_
            rotate_left
            · (intro w hSw; (try dsimp only at hSw); (obtain ⟨RR2, B2⟩ := hSw); obtain ⟨k0, k1, k2, k3, k4, k5, k6, k7, k8, k9, k10, k11⟩ := cells12 RR2; go_simp; try with_reducible rfl)
            try simp only [Act.put, List.setIfInBounds_toArray, List.set_cons_zero, List.set_cons_succ]
            refine wpAnyH_take (i := 1) (oi := { dst := some 59, op := Op.move (Operand.tmp 14), type := 3, pos := "do.go:43", after := #[], guard := none }) (v := ?_) rfl (by kernel_rfl) (by kernel_rfl) (by kernel_rfl) (fun _ _ _ h => h) (Or.inl ⟨by rfl, ?_⟩) (by assumption) ?_
            rotate_left
            · (intro w hSw; (try dsimp only at hSw); go_simp; try with_reducible rfl)
            try simp only [Act.put, List.setIfInBounds_toArray, List.set_cons_zero, List.set_cons_succ]
            refine wpAnyH_take (i := 2) (oi := { dst := some 60, op := Op.fieldAddr 60 (Operand.tmp 13) 0, type := 0, pos := "do.go:43", after := #[], guard := none }) (v := ?_) rfl (by kernel_rfl) (by kernel_rfl) (by kernel_rfl) (fun _ _ _ h => h) (Or.inl ⟨by rfl, ?_⟩) (by assumption) ?_
            rotate_left
            · (intro w hSw; (try dsimp only at hSw); go_simp; try with_reducible rfl)
            try simp only [Act.put, List.setIfInBounds_toArray, List.set_cons_zero, List.set_cons_succ]
            refine wpAnyH_take (i := 3) (oi := { dst := some 61, op := Op.load 43 (Operand.tmp 60), type := 43, pos := "do.go:43", after := #[{ on := 2, ground := Ground.data }], guard := none }) (v := ?_) rfl (by kernel_rfl) (by kernel_rfl) (by kernel_rfl) (fun _ _ _ h => h) (Or.inl ⟨by rfl, ?_⟩) (by assumption) ?_
            rotate_left
            · (intro w hSw; (try dsimp only at hSw); (obtain ⟨RR2, B2⟩ := hSw); obtain ⟨k0, k1, k2⟩ := cells3 B2; go_simp; try with_reducible rfl)
            try simp only [Act.put, List.setIfInBounds_toArray, List.set_cons_zero, List.set_cons_succ]
            refine wpAnyH_take (i := 4) (oi := { dst := some 62, op := Op.move (Operand.tmp 11), type := 22, pos := "do.go:43", after := #[], guard := none }) (v := ?_) rfl (by kernel_rfl) (by kernel_rfl) (by kernel_rfl) (fun _ _ _ h => h) (Or.inl ⟨by rfl, ?_⟩) (by assumption) ?_
            rotate_left
            · (intro w hSw; (try dsimp only at hSw); go_simp; try with_reducible rfl)
            try simp only [Act.put, List.setIfInBounds_toArray, List.set_cons_zero, List.set_cons_succ]
            refine wpAnyH_take (i := 5) (oi := { dst := some 63, op := Op.move (Operand.tmp 16), type := 22, pos := "do.go:43", after := #[], guard := none }) (v := ?_) rfl (by kernel_rfl) (by kernel_rfl) (by kernel_rfl) (fun _ _ _ h => h) (Or.inl ⟨by rfl, ?_⟩) (by assumption) ?_
            rotate_left
            · (intro w hSw; (try dsimp only at hSw); go_simp; try with_reducible rfl)
            try simp only [Act.put, List.setIfInBounds_toArray, List.set_cons_zero, List.set_cons_succ]
            refine wpAnyH_take (i := 8) (oi := { dst := some 66, op := Op.move (Operand.tmp 11), type := 22, pos := "do.go:43", after := #[{ on := 9, ground := Ground.gcOnly Departure.lateStores }], guard := none }) (v := ?_) rfl (by kernel_rfl) (by kernel_rfl) (by kernel_rfl) (fun _ _ _ h => h) (Or.inl ⟨by rfl, ?_⟩) (by assumption) ?_
            rotate_left
            · (intro w hSw; (try dsimp only at hSw); go_simp; try with_reducible rfl)
            try simp only [Act.put, List.setIfInBounds_toArray, List.set_cons_zero, List.set_cons_succ]
            refine wpAnyH_ready (rs := [6]) (by kernel_rfl) (by simp) ?_
            refine (AllReadyH.cons (o := { dst := some 64, op := Op.call { callee := Callee.value (Operand.tmp 61), args := #[Operand.tmp 62, Operand.tmp 63], argTypes := #[22, 22] }, type := 22, pos := "do.go:43", after := #[{ on := 3, ground := Ground.data }, { on := 4, ground := Ground.data }, { on := 5, ground := Ground.data }], guard := none }) rfl (fun K hK => ?_) AllReadyH.nil)
            go_simp
            refine (HDo.out _ (cel_gr (gr_drew (gr_refl w2 none)))).mono ?_
            rintro e w3 ⟨rfl, hw3⟩
            have hg : w2.drew.grownBy w3 none := hw3 ▸ gr_refl _ _
            have Z3 := Row.grown (Row.grown Z2 (gr_drew (gr_refl w2 none)) (by simp)) hg (by simp)
            have G3 := gr_trans (gr_drew G2) hg
            clear hw3
            go_wp2_with fail
            refine hK.out _ _ ?_ (fun hHeld => ?_)
            · exact ⟨Row.grown hHeld.1 hg (by simp), Row.grown hHeld.2 hg (by simp)⟩
            clear hK K
            try simp only [Act.put, List.setIfInBounds_toArray, List.set_cons_zero, List.set_cons_succ]
            refine wpAnyH_ready (rs := [7]) (by kernel_rfl) (by simp) ?_
            refine (AllReadyH.cons (o := { dst := some 65, op := Op.call { callee := Callee.value (Operand.func 14), args := #[Operand.tmp 58, Operand.tmp 59, Operand.tmp 64], argTypes := #[24, 3, 22] }, type := 24, pos := "do.go:43", after := #[{ on := 0, ground := Ground.data }, { on := 1, ground := Ground.data }, { on := 6, ground := Ground.data }, { on := 6, ground := Ground.chain }], guard := none }) rfl (fun K hK => ?_) AllReadyH.nil)
            go_simp
            go_at_call 14
            refine (hWr.out _).mono ?_
            rintro e w4 ⟨rfl, hg⟩
            have Z4 := Row.grown Z3 hg (by simp)
            have G4 := gr_trans G3 hg
            go_wp2_with fail
            refine hK.out _ _ ?_ (fun hHeld => ?_)
            · exact ⟨Row.grown hHeld.1 hg (by simp), Row.grown hHeld.2 hg (by simp)⟩
            clear hK K
            try simp only [Act.put, List.setIfInBounds_toArray, List.set_cons_zero, List.set_cons_succ]
            refine wpAnyH_ready (rs := [9]) (by kernel_rfl) (by simp) ?_
            refine (AllReadyH.cons (o := { dst := none, op := Op.store 24 (Operand.tmp 10) (Operand.tmp 65), type := 0, pos := "do.go:43", after := #[{ on := 7, ground := Ground.data }, { on := 7, ground := Ground.chain }, { on := 0, ground := Ground.phase }, { on := 1, ground := Ground.phase }, { on := 2, ground := Ground.phase }, { on := 3, ground := Ground.phase }, { on := 4, ground := Ground.phase }, { on := 5, ground := Ground.phase }, { on := 6, ground := Ground.phase }, { on := 7, ground := Ground.phase }, { on := 8, ground := Ground.textOnly Departure.lateStores }], guard := none }) rfl (fun K hK => ?_) AllReadyH.nil)
            obtain ⟨z0, z1, z2, z3, z4, z5, z6, z7, z8, z9, z10, z11⟩ := cells12 Z4
            have zf := Z4.free
            have n1 : q ≠ q + 1 + 1 := by omega
            have n2 : bi ≠ q + 1 + 1 := Row.apart hHeld.2 Z4 (by decide)
            go_simp
            skip
            refine hK.out _ _ ?_ (fun hHeld => ?_)
            · exact ⟨oth12 hHeld.1 n1 _ _ _ _ _ _ _ _ _ _ _ _, oth12 hHeld.2 n2 _ _ _ _ _ _ _ _ _ _ _ _⟩
            clear hK K
            try simp only [Act.put, List.setIfInBounds_toArray, List.set_cons_zero, List.set_cons_succ]
            refine wpAnyH_take (i := 10) (oi := { dst := some 11, op := Op.assign (Operand.tmp 66), type := 22, pos := "do.go:43", after := #[{ on := 8, ground := Ground.data }, { on := 9, ground := Ground.chain }, { on := 0, ground := Ground.phase }, { on := 1, ground := Ground.phase }, { on := 2, ground := Ground.phase }, { on := 3, ground := Ground.phase }, { on := 4, ground := Ground.phase }, { on := 5, ground := Ground.phase }, { on := 6, ground := Ground.phase }, { on := 7, ground := Ground.phase }, { on := 8, ground := Ground.phase }, { on := 9, ground := Ground.phase }], guard := none }) (v := ?_) rfl (by kernel_rfl) (by kernel_rfl) (by kernel_rfl) (fun _ _ _ h => h) (Or.inl ⟨by rfl, ?_⟩) (by assumption) ?_
            rotate_left
            · (intro w hSw; (try dsimp only at hSw); go_simp; try with_reducible rfl)
            try simp only [Act.put, List.setIfInBounds_toArray, List.set_cons_zero, List.set_cons_succ]
            refine wpAnyH_take (i := 11) (oi := { dst := some 12, op := Op.assign (Operand.const (Value.bool true)), type := 4, pos := "do.go:43", after := #[{ on := 10, ground := Ground.chain }, { on := 0, ground := Ground.phase }, { on := 1, ground := Ground.phase }, { on := 2, ground := Ground.phase }, { on := 3, ground := Ground.phase }, { on := 4, ground := Ground.phase }, { on := 5, ground := Ground.phase }, { on := 6, ground := Ground.phase }, { on := 7, ground := Ground.phase }, { on := 8, ground := Ground.phase }, { on := 9, ground := Ground.phase }, { on := 10, ground := Ground.phase }], guard := none }) (v := ?_) rfl (by kernel_rfl) (by kernel_rfl) (by kernel_rfl) (fun _ _ _ h => h) (Or.inl ⟨by rfl, ?_⟩) (by assumption) ?_
            rotate_left
            · (intro w hSw; (try dsimp only at hSw); go_simp; try with_reducible rfl)
            try simp only [Act.put, List.setIfInBounds_toArray, List.set_cons_zero, List.set_cons_succ]
            refine wpAnyH_done (by kernel_rfl) ?_ _
            go_wp2_with fail
            exact ret_D rfl rfl rfl rfl rfl (c := [d0, d1, d2, d3, d4, d5, d6, d7, d8, d9, d10, d11]) (put12 Z4 rfl _ _ _ _ _ _ _ _ _ _ _ _) rfl ⟨by rw [ED.out, ET.out, EM.out], gr12 G4 (Nat.le_succ_of_le (Nat.le_succ_of_le HQ.out)) _ _ _ _ _ _ _ _ _ _ _ _⟩
      | false =>
        by_cases hr : r = 0
        · subst hr
          have EW2 := Lib.hid (show wrV o 0 = false by rw [EW.out]; rfl)
          have RR0 := R0
          rw [ECC.out] at RR0
          obtain ⟨k0_0, k0_1, k0_2, k0_3, k0_4, k0_5, k0_6, k0_7, k0_8, k0_9, k0_10, k0_11⟩ := cells12 RR0
          have i0_0 : U.cell? ⟨q + 1, 0, none⟩ = some (.int .i64 o) := I0.cell 0
          have i0_2 : U.cell? ⟨q + 1, 2, none⟩ = some (.int .i64 0) := I0.cell 2
          have i0_4 : U.cell? ⟨q + 1, 4, none⟩ = some (.int .i64 n) := I0.cell 4
          have b0_0 : U.cell? ⟨bi, 0, none⟩ = some (pf) := B0.cell 0
          have b0_1 : U.cell? ⟨bi, 1, none⟩ = some (.bool false) := B0.cell 1
          have b0_2 : U.cell? ⟨bi, 2, none⟩ = some (.bool y) := B0.cell 2
          go_wp2_with fail
          refine (hM.out _ false).mono ?_
          rintro e w1 ⟨rfl, hG⟩
          have R1 := Row.grown R0 hG (by simp)
          have I1 := Row.grown I0 hG (by simp)
          have Z1 := Row.grown Z0 hG (by simp)
          have B1 := Row.grown B0 hG (by simp)
          have G1 := gr_trans G0 hG
          have EM := Lib.hid (show okV c p o 0 n = mayV c n p false by rw [okV, EI.out, EW2.out, Bool.true_and])
          clear RR0 k0_0 k0_1 k0_2 k0_3 k0_4 k0_5 k0_6 k0_7 k0_8 k0_9 k0_10 k0_11 i0_0 i0_2 i0_4 b0_0 b0_1 b0_2
          clear hG R0 I0 Z0 B0 G0
          have RR1 := R1
          rw [ECC.out] at RR1
          obtain ⟨k1_0, k1_1, k1_2, k1_3, k1_4, k1_5, k1_6, k1_7, k1_8, k1_9, k1_10, k1_11⟩ := cells12 RR1
          have i1_0 : w1.cell? ⟨q + 1, 0, none⟩ = some (.int .i64 o) := I1.cell 0
          have i1_2 : w1.cell? ⟨q + 1, 2, none⟩ = some (.int .i64 0) := I1.cell 2
          have i1_4 : w1.cell? ⟨q + 1, 4, none⟩ = some (.int .i64 n) := I1.cell 4
          have b1_0 : w1.cell? ⟨bi, 0, none⟩ = some (pf) := B1.cell 0
          have b1_1 : w1.cell? ⟨bi, 1, none⟩ = some (.bool false) := B1.cell 1
          have b1_2 : w1.cell? ⟨bi, 2, none⟩ = some (.bool y) := B1.cell 2
          generalize mayV c n p false = mv at *
          cases mv with
          | false =>
            have ED := Lib.hid (show C.doV c p t o 0 n b = c by rw [C.doV, if_neg (by rw [EM.out]; simp)])
            have ET := Lib.hid (show toldV c p t o 0 n = 0 by rw [toldV, if_neg (by rw [EM.out]; simp)])
            obtain ⟨z1_0, z1_1, z1_2, z1_3, z1_4, z1_5, z1_6, z1_7, z1_8, z1_9, z1_10, z1_11⟩ := cells12 Z1
            have zf1 := Z1.free
            go_wp2_with fail
            exact ret_D rfl rfl rfl rfl rfl (c := c) (by rw [ECC.out]; exact put12 Z1 rfl _ _ _ _ _ _ _ _ _ _ _ _) HC.out.1 ⟨by rw [ED.out, ET.out, EM.out], gr12 G1 (Nat.le_succ_of_le (Nat.le_succ_of_le HQ.out)) _ _ _ _ _ _ _ _ _ _ _ _⟩
          | true =>
            have ET := Lib.hid (show toldV c p t o 0 n = readV c n t by rw [toldV, if_pos (by rw [EM.out])])
            go_wp2_with fail
            refine (hRd.out _).mono ?_
            rintro e w2 ⟨rfl, hG⟩
            have R2 := Row.grown R1 hG (by simp)
            have I2 := Row.grown I1 hG (by simp)
            have Z2 := Row.grown Z1 hG (by simp)
            have B2 := Row.grown B1 hG (by simp)
            have G2 := gr_trans G1 hG
            clear RR1 k1_0 k1_1 k1_2 k1_3 k1_4 k1_5 k1_6 k1_7 k1_8 k1_9 k1_10 k1_11 i1_0 i1_2 i1_4 b1_0 b1_1 b1_2
            clear hG R1 I1 Z1 B1 G1
            have RR2 := R2
            rw [ECC.out] at RR2
            obtain ⟨k2_0, k2_1, k2_2, k2_3, k2_4, k2_5, k2_6, k2_7, k2_8, k2_9, k2_10, k2_11⟩ := cells12 RR2
            have i2_0 : w2.cell? ⟨q + 1, 0, none⟩ = some (.int .i64 o) := I2.cell 0
            have i2_2 : w2.cell? ⟨q + 1, 2, none⟩ = some (.int .i64 0) := I2.cell 2
            have i2_4 : w2.cell? ⟨q + 1, 4, none⟩ = some (.int .i64 n) := I2.cell 4
            have b2_0 : w2.cell? ⟨bi, 0, none⟩ = some (pf) := B2.cell 0
            have b2_1 : w2.cell? ⟨bi, 1, none⟩ = some (.bool false) := B2.cell 1
            have b2_2 : w2.cell? ⟨bi, 2, none⟩ = some (.bool y) := B2.cell 2
            have hT2 := read_bd HC.out n ht
            have HT2 := Lib.hid hT2
            have ED := Lib.hid (show C.doV c p t o 0 n b = c by rw [C.doV, if_neg (by rw [EW2.out]; simp)])
            generalize readV c n t = tv at *
            unfold B64 at hT2
            obtain ⟨z2_0, z2_1, z2_2, z2_3, z2_4, z2_5, z2_6, z2_7, z2_8, z2_9, z2_10, z2_11⟩ := cells12 Z2
            have zf2 := Z2.free
            go_wp2_with fail
            exact ret_D rfl rfl rfl rfl rfl (c := c) (by rw [ECC.out]; exact put12 Z2 rfl _ _ _ _ _ _ _ _ _ _ _ _) HC.out.1 ⟨by rw [ED.out, ET.out, EM.out], gr12 G2 (Nat.le_succ_of_le (Nat.le_succ_of_le HQ.out)) _ _ _ _ _ _ _ _ _ _ _ _⟩
        · have hr0 : (r == 0) = false := by simpa using hr
          have hr9 : (r != 0) = true := by rw [bne, hr0]; rfl
          clear hr
          have EW2 := Lib.hid (show wrV o r = true by rw [EW.out, hr0]; rfl)
          have RR0 := R0
          rw [ECC.out] at RR0
          obtain ⟨k0_0, k0_1, k0_2, k0_3, k0_4, k0_5, k0_6, k0_7, k0_8, k0_9, k0_10, k0_11⟩ := cells12 RR0
          have i0_0 : U.cell? ⟨q + 1, 0, none⟩ = some (.int .i64 o) := I0.cell 0
          have i0_2 : U.cell? ⟨q + 1, 2, none⟩ = some (.int .i64 r) := I0.cell 2
          have i0_4 : U.cell? ⟨q + 1, 4, none⟩ = some (.int .i64 n) := I0.cell 4
          have b0_0 : U.cell? ⟨bi, 0, none⟩ = some (pf) := B0.cell 0
          have b0_1 : U.cell? ⟨bi, 1, none⟩ = some (.bool false) := B0.cell 1
          have b0_2 : U.cell? ⟨bi, 2, none⟩ = some (.bool y) := B0.cell 2
          go_wp2_with fail
          refine (hM.out _ true).mono ?_
          rintro e w1 ⟨rfl, hG⟩
          have R1 := Row.grown R0 hG (by simp)
          have I1 := Row.grown I0 hG (by simp)
          have Z1 := Row.grown Z0 hG (by simp)
          have B1 := Row.grown B0 hG (by simp)
          have G1 := gr_trans G0 hG
          have EM := Lib.hid (show okV c p o r n = mayV c n p true by rw [okV, EI.out, EW2.out, Bool.true_and])
          clear RR0 k0_0 k0_1 k0_2 k0_3 k0_4 k0_5 k0_6 k0_7 k0_8 k0_9 k0_10 k0_11 i0_0 i0_2 i0_4 b0_0 b0_1 b0_2
          clear hG R0 I0 Z0 B0 G0
          have RR1 := R1
          rw [ECC.out] at RR1
          obtain ⟨k1_0, k1_1, k1_2, k1_3, k1_4, k1_5, k1_6, k1_7, k1_8, k1_9, k1_10, k1_11⟩ := cells12 RR1
          have i1_0 : w1.cell? ⟨q + 1, 0, none⟩ = some (.int .i64 o) := I1.cell 0
          have i1_2 : w1.cell? ⟨q + 1, 2, none⟩ = some (.int .i64 r) := I1.cell 2
          have i1_4 : w1.cell? ⟨q + 1, 4, none⟩ = some (.int .i64 n) := I1.cell 4
          have b1_0 : w1.cell? ⟨bi, 0, none⟩ = some (pf) := B1.cell 0
          have b1_1 : w1.cell? ⟨bi, 1, none⟩ = some (.bool false) := B1.cell 1
          have b1_2 : w1.cell? ⟨bi, 2, none⟩ = some (.bool y) := B1.cell 2
          generalize mayV c n p true = mv at *
          cases mv with
          | false =>
            have ED := Lib.hid (show C.doV c p t o r n b = c by rw [C.doV, if_neg (by rw [EM.out]; simp)])
            have ET := Lib.hid (show toldV c p t o r n = 0 by rw [toldV, if_neg (by rw [EM.out]; simp)])
            obtain ⟨z1_0, z1_1, z1_2, z1_3, z1_4, z1_5, z1_6, z1_7, z1_8, z1_9, z1_10, z1_11⟩ := cells12 Z1
            have zf1 := Z1.free
            go_wp2_with fail
            exact ret_D rfl rfl rfl rfl rfl (c := c) (by rw [ECC.out]; exact put12 Z1 rfl _ _ _ _ _ _ _ _ _ _ _ _) HC.out.1 ⟨by rw [ED.out, ET.out, EM.out], gr12 G1 (Nat.le_succ_of_le (Nat.le_succ_of_le HQ.out)) _ _ _ _ _ _ _ _ _ _ _ _⟩
          | true =>
            have ET := Lib.hid (show toldV c p t o r n = readV c n t by rw [toldV, if_pos (by rw [EM.out])])
            go_wp2_with fail
            refine (hRd.out _).mono ?_
            rintro e w2 ⟨rfl, hG⟩
            have R2 := Row.grown R1 hG (by simp)
            have I2 := Row.grown I1 hG (by simp)
            have Z2 := Row.grown Z1 hG (by simp)
            have B2 := Row.grown B1 hG (by simp)
            have G2 := gr_trans G1 hG
            clear RR1 k1_0 k1_1 k1_2 k1_3 k1_4 k1_5 k1_6 k1_7 k1_8 k1_9 k1_10 k1_11 i1_0 i1_2 i1_4 b1_0 b1_1 b1_2
            clear hG R1 I1 Z1 B1 G1
            have RR2 := R2
            rw [ECC.out] at RR2
            obtain ⟨k2_0, k2_1, k2_2, k2_3, k2_4, k2_5, k2_6, k2_7, k2_8, k2_9, k2_10, k2_11⟩ := cells12 RR2
            have i2_0 : w2.cell? ⟨q + 1, 0, none⟩ = some (.int .i64 o) := I2.cell 0
            have i2_2 : w2.cell? ⟨q + 1, 2, none⟩ = some (.int .i64 r) := I2.cell 2
            have i2_4 : w2.cell? ⟨q + 1, 4, none⟩ = some (.int .i64 n) := I2.cell 4
            have b2_0 : w2.cell? ⟨bi, 0, none⟩ = some (pf) := B2.cell 0
            have b2_1 : w2.cell? ⟨bi, 1, none⟩ = some (.bool false) := B2.cell 1
            have b2_2 : w2.cell? ⟨bi, 2, none⟩ = some (.bool y) := B2.cell 2
            have hT2 := read_bd HC.out n ht
            have HT2 := Lib.hid hT2
            have ED := Lib.hid (show C.doV c p t o r n b = writeV c n (f (readV c n t) (yV o r b)) by rw [C.doV, if_pos ⟨by rw [EM.out], EW2.out⟩, EF.out])
            have hY := Lib.hid (y_bd (o := o) (r := r) (b := b) hb)
            obtain ⟨kk, cap, rfl, hop, hbd, hc⟩ := hD w2
            unfold Opens at hop
            have HDo := Lib.hid (fun W (hW : Cel w2 W) => hc W hW (readV c n t) (yV o r b) HT2.out hY.out)
            have hbz := hbd (readV c n t) (yV o r b) HT2.out hY.out
            have hWr := Lib.hid (fun W => Write_c c HC.out n (f (readV c n t) (yV o r b)) hn hbz W)
            have hGW := write_good HC.out n hbz
            rw [HV.out] at hWr
            obtain ⟨d0, d1, d2, d3, d4, d5, d6, d7, d8, d9, d10, d11, ed⟩ := twelve hGW.1
            rw [ed, vC_12] at hWr
            rw [ed] at ED
            rw [EY.out] at HDo hWr hY hbz
            generalize readV c n t = tv at *
            unfold B64 at hT2 hbz
            clear hc hbd ed hGW hD
            cases y with
            | true =>
              rw [if_pos rfl] at HDo hWr hY hbz
              clear EY
              go_wp2_with fail
              clear k2_0 k2_1 k2_2 k2_3 k2_4 k2_5 k2_6 k2_7 k2_8 k2_9 k2_10 k2_11 i2_0 i2_2 i2_4 b2_0 b2_1 b2_2
              generalize f tv (IntKind.u64.wrap r) = fz at *
              refine wp_region_held_drew (S := fun w' => Row w' q 24 (lC [a0, a1, a2, a3, a4, a5, a6, a7, a8, a9, a10, a11]) ∧ Row w' bi 60 [.func (.func kk) #[] cap, .bool false, .bool true]) (by kernel_rfl) ?_ (fun hHeld => ?_)
              · exact ⟨Row.grown RR2 (gr_drew (gr_refl _ none)) (by simp), Row.grown B2 (gr_drew (gr_refl _ none)) (by simp)⟩
              refine wpAnyH_take (i := 0) (oi := { dst := some 58, op := Op.load 24 (Operand.tmp 5), type := 24, pos := "do.go:43", after := #[], guard := none }) (v := ?_) rfl (by kernel_rfl) (by kernel_rfl) (by kernel_rfl) (fun _ _ _ h => h) (Or.inl ⟨by rfl, ?_⟩) (by assumption) ?_
              rotate_left
              · (intro w hSw; (try dsimp only at hSw); (obtain ⟨RR2, B2⟩ := hSw); obtain ⟨k0, k1, k2, k3, k4, k5, k6, k7, k8, k9, k10, k11⟩ := cells12 RR2; go_simp; try with_reducible rfl)
              try simp only [Act.put, List.setIfInBounds_toArray, List.set_cons_zero, List.set_cons_succ]
              refine wpAnyH_take (i := 1) (oi := { dst := some 59, op := Op.move (Operand.tmp 14), type := 3, pos := "do.go:43", after := #[], guard := none }) (v := ?_) rfl (by kernel_rfl) (by kernel_rfl) (by kernel_rfl) (fun _ _ _ h => h) (Or.inl ⟨by rfl, ?_⟩) (by assumption) ?_
              rotate_left
              · (intro w hSw; (try dsimp only at hSw); go_simp; try with_reducible rfl)
              try simp only [Act.put, List.setIfInBounds_toArray, List.set_cons_zero, List.set_cons_succ]
              refine wpAnyH_take (i := 2) (oi := { dst := some 60, op := Op.fieldAddr 60 (Operand.tmp 13) 0, type := 0, pos := "do.go:43", after := #[], guard := none }) (v := ?_) rfl (by kernel_rfl) (by kernel_rfl) (by kernel_rfl) (fun _ _ _ h => h) (Or.inl ⟨by rfl, ?_⟩) (by assumption) ?_
              rotate_left
              · (intro w hSw; (try dsimp only at hSw); go_simp; try with_reducible rfl)
              try simp only [Act.put, List.setIfInBounds_toArray, List.set_cons_zero, List.set_cons_succ]
              refine wpAnyH_take (i := 3) (oi := { dst := some 61, op := Op.load 43 (Operand.tmp 60), type := 43, pos := "do.go:43", after := #[{ on := 2, ground := Ground.data }], guard := none }) (v := ?_) rfl (by kernel_rfl) (by kernel_rfl) (by kernel_rfl) (fun _ _ _ h => h) (Or.inl ⟨by rfl, ?_⟩) (by assumption) ?_
              rotate_left
              · (intro w hSw; (try dsimp only at hSw); (obtain ⟨RR2, B2⟩ := hSw); obtain ⟨k0, k1, k2⟩ := cells3 B2; go_simp; try with_reducible rfl)
              try simp only [Act.put, List.setIfInBounds_toArray, List.set_cons_zero, List.set_cons_succ]
              refine wpAnyH_take (i := 4) (oi := { dst := some 62, op := Op.move (Operand.tmp 11), type := 22, pos := "do.go:43", after := #[], guard := none }) (v := ?_) rfl (by kernel_rfl) (by kernel_rfl) (by kernel_rfl) (fun _ _ _ h => h) (Or.inl ⟨by rfl, ?_⟩) (by assumption) ?_
              rotate_left
              · (intro w hSw; (try dsimp only at hSw); go_simp; try with_reducible rfl)
              try simp only [Act.put, List.setIfInBounds_toArray, List.set_cons_zero, List.set_cons_succ]
              refine wpAnyH_take (i := 5) (oi := { dst := some 63, op := Op.move (Operand.tmp 16), type := 22, pos := "do.go:43", after := #[], guard := none }) (v := ?_) rfl (by kernel_rfl) (by kernel_rfl) (by kernel_rfl) (fun _ _ _ h => h) (Or.inl ⟨by rfl, ?_⟩) (by assumption) ?_
              rotate_left
              · (intro w hSw; (try dsimp only at hSw); go_simp; try with_reducible rfl)
              try simp only [Act.put, List.setIfInBounds_toArray, List.set_cons_zero, List.set_cons_succ]
              refine wpAnyH_take (i := 8) (oi := { dst := some 66, op := Op.move (Operand.tmp 11), type := 22, pos := "do.go:43", after := #[{ on := 9, ground := Ground.gcOnly Departure.lateStores }], guard := none }) (v := ?_) rfl (by kernel_rfl) (by kernel_rfl) (by kernel_rfl) (fun _ _ _ h => h) (Or.inl ⟨by rfl, ?_⟩) (by assumption) ?_
              rotate_left
              · (intro w hSw; (try dsimp only at hSw); go_simp; try with_reducible rfl)
              try simp only [Act.put, List.setIfInBounds_toArray, List.set_cons_zero, List.set_cons_succ]
              refine wpAnyH_ready (rs := [6]) (by kernel_rfl) (by simp) ?_
              refine (AllReadyH.cons (o := { dst := some 64, op := Op.call { callee := Callee.value (Operand.tmp 61), args := #[Operand.tmp 62, Operand.tmp 63], argTypes := #[22, 22] }, type := 22, pos := "do.go:43", after := #[{ on := 3, ground := Ground.data }, { on := 4, ground := Ground.data }, { on := 5, ground := Ground.data }], guard := none }) rfl (fun K hK => ?_) AllReadyH.nil)
              go_simp
              refine (HDo.out _ (cel_gr (gr_drew (gr_refl w2 none)))).mono ?_
              rintro e w3 ⟨rfl, hw3⟩
              have hg : w2.drew.grownBy w3 none := hw3 ▸ gr_refl _ _
              have Z3 := Row.grown (Row.grown Z2 (gr_drew (gr_refl w2 none)) (by simp)) hg (by simp)
              have G3 := gr_trans (gr_drew G2) hg
              clear hw3
              go_wp2_with fail
              refine hK.out _ _ ?_ (fun hHeld => ?_)
              · exact ⟨Row.grown hHeld.1 hg (by simp), Row.grown hHeld.2 hg (by simp)⟩
              clear hK K
              try simp only [Act.put, List.setIfInBounds_toArray, List.set_cons_zero, List.set_cons_succ]
              refine wpAnyH_ready (rs := [7]) (by kernel_rfl) (by simp) ?_
              refine (AllReadyH.cons (o := { dst := some 65, op := Op.call { callee := Callee.value (Operand.func 14), args := #[Operand.tmp 58, Operand.tmp 59, Operand.tmp 64], argTypes := #[24, 3, 22] }, type := 24, pos := "do.go:43", after := #[{ on := 0, ground := Ground.data }, { on := 1, ground := Ground.data }, { on := 6, ground := Ground.data }, { on := 6, ground := Ground.chain }], guard := none }) rfl (fun K hK => ?_) AllReadyH.nil)
              go_simp
              go_at_call 14
              refine (hWr.out _).mono ?_
              rintro e w4 ⟨rfl, hg⟩
              have Z4 := Row.grown Z3 hg (by simp)
              have G4 := gr_trans G3 hg
              go_wp2_with fail
              refine hK.out _ _ ?_ (fun hHeld => ?_)
              · exact ⟨Row.grown hHeld.1 hg (by simp), Row.grown hHeld.2 hg (by simp)⟩
              clear hK K
              try simp only [Act.put, List.setIfInBounds_toArray, List.set_cons_zero, List.set_cons_succ]
              refine wpAnyH_ready (rs := [9]) (by kernel_rfl) (by simp) ?_
              refine (AllReadyH.cons (o := { dst := none, op := Op.store 24 (Operand.tmp 10) (Operand.tmp 65), type := 0, pos := "do.go:43", after := #[{ on := 7, ground := Ground.data }, { on := 7, ground := Ground.chain }, { on := 0, ground := Ground.phase }, { on := 1, ground := Ground.phase }, { on := 2, ground := Ground.phase }, { on := 3, ground := Ground.phase }, { on := 4, ground := Ground.phase }, { on := 5, ground := Ground.phase }, { on := 6, ground := Ground.phase }, { on := 7, ground := Ground.phase }, { on := 8, ground := Ground.textOnly Departure.lateStores }], guard := none }) rfl (fun K hK => ?_) AllReadyH.nil)
              obtain ⟨z0, z1, z2, z3, z4, z5, z6, z7, z8, z9, z10, z11⟩ := cells12 Z4
              have zf := Z4.free
              have n1 : q ≠ q + 1 + 1 := by omega
              have n2 : bi ≠ q + 1 + 1 := Row.apart hHeld.2 Z4 (by decide)
              go_simp
              skip
              refine hK.out _ _ ?_ (fun hHeld => ?_)
              · exact ⟨oth12 hHeld.1 n1 _ _ _ _ _ _ _ _ _ _ _ _, oth12 hHeld.2 n2 _ _ _ _ _ _ _ _ _ _ _ _⟩
              clear hK K
              try simp only [Act.put, List.setIfInBounds_toArray, List.set_cons_zero, List.set_cons_succ]
              refine wpAnyH_take (i := 10) (oi := { dst := some 11, op := Op.assign (Operand.tmp 66), type := 22, pos := "do.go:43", after := #[{ on := 8, ground := Ground.data }, { on := 9, ground := Ground.chain }, { on := 0, ground := Ground.phase }, { on := 1, ground := Ground.phase }, { on := 2, ground := Ground.phase }, { on := 3, ground := Ground.phase }, { on := 4, ground := Ground.phase }, { on := 5, ground := Ground.phase }, { on := 6, ground := Ground.phase }, { on := 7, ground := Ground.phase }, { on := 8, ground := Ground.phase }, { on := 9, ground := Ground.phase }], guard := none }) (v := ?_) rfl (by kernel_rfl) (by kernel_rfl) (by kernel_rfl) (fun _ _ _ h => h) (Or.inl ⟨by rfl, ?_⟩) (by assumption) ?_
              rotate_left
              · (intro w hSw; (try dsimp only at hSw); go_simp; try with_reducible rfl)
              try simp only [Act.put, List.setIfInBounds_toArray, List.set_cons_zero, List.set_cons_succ]
              refine wpAnyH_take (i := 11) (oi := { dst := some 12, op := Op.assign (Operand.const (Value.bool true)), type := 4, pos := "do.go:43", after := #[{ on := 10, ground := Ground.chain }, { on := 0, ground := Ground.phase }, { on := 1, ground := Ground.phase }, { on := 2, ground := Ground.phase }, { on := 3, ground := Ground.phase }, { on := 4, ground := Ground.phase }, { on := 5, ground := Ground.phase }, { on := 6, ground := Ground.phase }, { on := 7, ground := Ground.phase }, { on := 8, ground := Ground.phase }, { on := 9, ground := Ground.phase }, { on := 10, ground := Ground.phase }], guard := none }) (v := ?_) rfl (by kernel_rfl) (by kernel_rfl) (by kernel_rfl) (fun _ _ _ h => h) (Or.inl ⟨by rfl, ?_⟩) (by assumption) ?_
              rotate_left
              · (intro w hSw; (try dsimp only at hSw); go_simp; try with_reducible rfl)
              try simp only [Act.put, List.setIfInBounds_toArray, List.set_cons_zero, List.set_cons_succ]
              refine wpAnyH_done (by kernel_rfl) ?_ _
              go_wp2_with fail
              exact ret_D rfl rfl rfl rfl rfl (c := [d0, d1, d2, d3, d4, d5, d6, d7, d8, d9, d10, d11]) (put12 Z4 rfl _ _ _ _ _ _ _ _ _ _ _ _) rfl ⟨by rw [ED.out, ET.out, EM.out], gr12 G4 (Nat.le_succ_of_le (Nat.le_succ_of_le HQ.out)) _ _ _ _ _ _ _ _ _ _ _ _⟩
            | false =>
              rw [if_neg (by simp)] at HDo hWr hY hbz
              clear EY
              go_wp2_with fail
              clear k2_0 k2_1 k2_2 k2_3 k2_4 k2_5 k2_6 k2_7 k2_8 k2_9 k2_10 k2_11 i2_0 i2_2 i2_4 b2_0 b2_1 b2_2
              generalize f tv b = fz at *
              refine wp_region_held_drew (S := fun w' => Row w' q 24 (lC [a0, a1, a2, a3, a4, a5, a6, a7, a8, a9, a10, a11]) ∧ Row w' bi 60 [.func (.func kk) #[] cap, .bool false, .bool false]) (by kernel_rfl) ?_ (fun hHeld => ?_)
              · exact ⟨Row.grown RR2 (gr_drew (gr_refl _ none)) (by simp), Row.grown B2 (gr_drew (gr_refl _ none)) (by simp)⟩
              refine wpAnyH_take (i := 0) (oi := { dst := some 58, op := Op.load 24 (Operand.tmp 5), type := 24, pos := "do.go:43", after := #[], guard := none }) (v := ?_) rfl (by kernel_rfl) (by kernel_rfl) (by kernel_rfl) (fun _ _ _ h => h) (Or.inl ⟨by rfl, ?_⟩) (by assumption) ?_
              rotate_left
              · (intro w hSw; (try dsimp only at hSw); (obtain ⟨RR2, B2⟩ := hSw); obtain ⟨k0, k1, k2, k3, k4, k5, k6, k7, k8, k9, k10, k11⟩ := cells12 RR2; go_simp; try with_reducible rfl)
              try simp only [Act.put, List.setIfInBounds_toArray, List.set_cons_zero, List.set_cons_succ]
              refine wpAnyH_take (i := 1) (oi := { dst := some 59, op := Op.move (Operand.tmp 14), type := 3, pos := "do.go:43", after := #[], guard := none }) (v := ?_) rfl (by kernel_rfl) (by kernel_rfl) (by kernel_rfl) (fun _ _ _ h => h) (Or.inl ⟨by rfl, ?_⟩) (by assumption) ?_
              rotate_left
              · (intro w hSw; (try dsimp only at hSw); go_simp; try with_reducible rfl)
              try simp only [Act.put, List.setIfInBounds_toArray, List.set_cons_zero, List.set_cons_succ]
              refine wpAnyH_take (i := 2) (oi := { dst := some 60, op := Op.fieldAddr 60 (Operand.tmp 13) 0, type := 0, pos := "do.go:43", after := #[], guard := none }) (v := ?_) rfl (by kernel_rfl) (by kernel_rfl) (by kernel_rfl) (fun _ _ _ h => h) (Or.inl ⟨by rfl, ?_⟩) (by assumption) ?_
              rotate_left
              · (intro w hSw; (try dsimp only at hSw); go_simp; try with_reducible rfl)
              try simp only [Act.put, List.setIfInBounds_toArray, List.set_cons_zero, List.set_cons_succ]
              refine wpAnyH_take (i := 3) (oi := { dst := some 61, op := Op.load 43 (Operand.tmp 60), type := 43, pos := "do.go:43", after := #[{ on := 2, ground := Ground.data }], guard := none }) (v := ?_) rfl (by kernel_rfl) (by kernel_rfl) (by kernel_rfl) (fun _ _ _ h => h) (Or.inl ⟨by rfl, ?_⟩) (by assumption) ?_
              rotate_left
              · (intro w hSw; (try dsimp only at hSw); (obtain ⟨RR2, B2⟩ := hSw); obtain ⟨k0, k1, k2⟩ := cells3 B2; go_simp; try with_reducible rfl)
              try simp only [Act.put, List.setIfInBounds_toArray, List.set_cons_zero, List.set_cons_succ]
              refine wpAnyH_take (i := 4) (oi := { dst := some 62, op := Op.move (Operand.tmp 11), type := 22, pos := "do.go:43", after := #[], guard := none }) (v := ?_) rfl (by kernel_rfl) (by kernel_rfl) (by kernel_rfl) (fun _ _ _ h => h) (Or.inl ⟨by rfl, ?_⟩) (by assumption) ?_
              rotate_left
              · (intro w hSw; (try dsimp only at hSw); go_simp; try with_reducible rfl)
              try simp only [Act.put, List.setIfInBounds_toArray, List.set_cons_zero, List.set_cons_succ]
              refine wpAnyH_take (i := 5) (oi := { dst := some 63, op := Op.move (Operand.tmp 16), type := 22, pos := "do.go:43", after := #[], guard := none }) (v := ?_) rfl (by kernel_rfl) (by kernel_rfl) (by kernel_rfl) (fun _ _ _ h => h) (Or.inl ⟨by rfl, ?_⟩) (by assumption) ?_
              rotate_left
              · (intro w hSw; (try dsimp only at hSw); go_simp; try with_reducible rfl)
              try simp only [Act.put, List.setIfInBounds_toArray, List.set_cons_zero, List.set_cons_succ]
              refine wpAnyH_take (i := 8) (oi := { dst := some 66, op := Op.move (Operand.tmp 11), type := 22, pos := "do.go:43", after := #[{ on := 9, ground := Ground.gcOnly Departure.lateStores }], guard := none }) (v := ?_) rfl (by kernel_rfl) (by kernel_rfl) (by kernel_rfl) (fun _ _ _ h => h) (Or.inl ⟨by rfl, ?_⟩) (by assumption) ?_
              rotate_left
              · (intro w hSw; (try dsimp only at hSw); go_simp; try with_reducible rfl)
              try simp only [Act.put, List.setIfInBounds_toArray, List.set_cons_zero, List.set_cons_succ]
              refine wpAnyH_ready (rs := [6]) (by kernel_rfl) (by simp) ?_
              refine (AllReadyH.cons (o := { dst := some 64, op := Op.call { callee := Callee.value (Operand.tmp 61), args := #[Operand.tmp 62, Operand.tmp 63], argTypes := #[22, 22] }, type := 22, pos := "do.go:43", after := #[{ on := 3, ground := Ground.data }, { on := 4, ground := Ground.data }, { on := 5, ground := Ground.data }], guard := none }) rfl (fun K hK => ?_) AllReadyH.nil)
              go_simp
              refine (HDo.out _ (cel_gr (gr_drew (gr_refl w2 none)))).mono ?_
              rintro e w3 ⟨rfl, hw3⟩
              have hg : w2.drew.grownBy w3 none := hw3 ▸ gr_refl _ _
              have Z3 := Row.grown (Row.grown Z2 (gr_drew (gr_refl w2 none)) (by simp)) hg (by simp)
              have G3 := gr_trans (gr_drew G2) hg
              clear hw3
              go_wp2_with fail
              refine hK.out _ _ ?_ (fun hHeld => ?_)
              · exact ⟨Row.grown hHeld.1 hg (by simp), Row.grown hHeld.2 hg (by simp)⟩
              clear hK K
              try simp only [Act.put, List.setIfInBounds_toArray, List.set_cons_zero, List.set_cons_succ]
              refine wpAnyH_ready (rs := [7]) (by kernel_rfl) (by simp) ?_
              refine (AllReadyH.cons (o := { dst := some 65, op := Op.call { callee := Callee.value (Operand.func 14), args := #[Operand.tmp 58, Operand.tmp 59, Operand.tmp 64], argTypes := #[24, 3, 22] }, type := 24, pos := "do.go:43", after := #[{ on := 0, ground := Ground.data }, { on := 1, ground := Ground.data }, { on := 6, ground := Ground.data }, { on := 6, ground := Ground.chain }], guard := none }) rfl (fun K hK => ?_) AllReadyH.nil)
              go_simp
              go_at_call 14
              refine (hWr.out _).mono ?_
              rintro e w4 ⟨rfl, hg⟩
              have Z4 := Row.grown Z3 hg (by simp)
              have G4 := gr_trans G3 hg
              go_wp2_with fail
              refine hK.out _ _ ?_ (fun hHeld => ?_)
              · exact ⟨Row.grown hHeld.1 hg (by simp), Row.grown hHeld.2 hg (by simp)⟩
              clear hK K
              try simp only [Act.put, List.setIfInBounds_toArray, List.set_cons_zero, List.set_cons_succ]
              refine wpAnyH_ready (rs := [9]) (by kernel_rfl) (by simp) ?_
              refine (AllReadyH.cons (o := { dst := none, op := Op.store 24 (Operand.tmp 10) (Operand.tmp 65), type := 0, pos := "do.go:43", after := #[{ on := 7, ground := Ground.data }, { on := 7, ground := Ground.chain }, { on := 0, ground := Ground.phase }, { on := 1, ground := Ground.phase }, { on := 2, ground := Ground.phase }, { on := 3, ground := Ground.phase }, { on := 4, ground := Ground.phase }, { on := 5, ground := Ground.phase }, { on := 6, ground := Ground.phase }, { on := 7, ground := Ground.phase }, { on := 8, ground := Ground.textOnly Departure.lateStores }], guard := none }) rfl (fun K hK => ?_) AllReadyH.nil)
              obtain ⟨z0, z1, z2, z3, z4, z5, z6, z7, z8, z9, z10, z11⟩ := cells12 Z4
              have zf := Z4.free
              have n1 : q ≠ q + 1 + 1 := by omega
              have n2 : bi ≠ q + 1 + 1 := Row.apart hHeld.2 Z4 (by decide)
              go_simp
              skip
              refine hK.out _ _ ?_ (fun hHeld => ?_)
              · exact ⟨oth12 hHeld.1 n1 _ _ _ _ _ _ _ _ _ _ _ _, oth12 hHeld.2 n2 _ _ _ _ _ _ _ _ _ _ _ _⟩
              clear hK K
              try simp only [Act.put, List.setIfInBounds_toArray, List.set_cons_zero, List.set_cons_succ]
              refine wpAnyH_take (i := 10) (oi := { dst := some 11, op := Op.assign (Operand.tmp 66), type := 22, pos := "do.go:43", after := #[{ on := 8, ground := Ground.data }, { on := 9, ground := Ground.chain }, { on := 0, ground := Ground.phase }, { on := 1, ground := Ground.phase }, { on := 2, ground := Ground.phase }, { on := 3, ground := Ground.phase }, { on := 4, ground := Ground.phase }, { on := 5, ground := Ground.phase }, { on := 6, ground := Ground.phase }, { on := 7, ground := Ground.phase }, { on := 8, ground := Ground.phase }, { on := 9, ground := Ground.phase }], guard := none }) (v := ?_) rfl (by kernel_rfl) (by kernel_rfl) (by kernel_rfl) (fun _ _ _ h => h) (Or.inl ⟨by rfl, ?_⟩) (by assumption) ?_
              rotate_left
              · (intro w hSw; (try dsimp only at hSw); go_simp; try with_reducible rfl)
              try simp only [Act.put, List.setIfInBounds_toArray, List.set_cons_zero, List.set_cons_succ]
              refine wpAnyH_take (i := 11) (oi := { dst := some 12, op := Op.assign (Operand.const (Value.bool true)), type := 4, pos := "do.go:43", after := #[{ on := 10, ground := Ground.chain }, { on := 0, ground := Ground.phase }, { on := 1, ground := Ground.phase }, { on := 2, ground := Ground.phase }, { on := 3, ground := Ground.phase }, { on := 4, ground := Ground.phase }, { on := 5, ground := Ground.phase }, { on := 6, ground := Ground.phase }, { on := 7, ground := Ground.phase }, { on := 8, ground := Ground.phase }, { on := 9, ground := Ground.phase }, { on := 10, ground := Ground.phase }], guard := none }) (v := ?_) rfl (by kernel_rfl) (by kernel_rfl) (by kernel_rfl) (fun _ _ _ h => h) (Or.inl ⟨by rfl, ?_⟩) (by assumption) ?_
              rotate_left
              · (intro w hSw; (try dsimp only at hSw); go_simp; try with_reducible rfl)
              try simp only [Act.put, List.setIfInBounds_toArray, List.set_cons_zero, List.set_cons_succ]
              refine wpAnyH_done (by kernel_rfl) ?_ _
              go_wp2_with fail
              exact ret_D rfl rfl rfl rfl rfl (c := [d0, d1, d2, d3, d4, d5, d6, d7, d8, d9, d10, d11]) (put12 Z4 rfl _ _ _ _ _ _ _ _ _ _ _ _) rfl ⟨by rw [ED.out, ET.out, EM.out], gr12 G4 (Nat.le_succ_of_le (Nat.le_succ_of_le HQ.out)) _ _ _ _ _ _ _ _ _ _ _ _⟩
  have R1 := HR.out
  have I1 := HI.out
  have Z1 := HZ.out
  have G0 := HGR.out
  refine wp_region_held_drew (S := fun w' => Row w' q 24 (lC c) ∧ Row w' (q + 1) 35 [.int .i64 o, .int .i64 rd, .int .i64 r, .int .i64 r2, .int .i64 n, .int .i64 ln] ∧ Row w' (q + 1 + 1) 24 zC) (by kernel_rfl) ?_ (fun hHeld => ?_)
  · exact ⟨Row.grown R1 (gr_drew (gr_refl _ none)) (by simp), Row.grown I1 (gr_drew (gr_refl _ none)) (by simp), Row.grown Z1 (gr_drew (gr_refl _ none)) (by simp)⟩
  refine wpAnyH_take (i := 1) (oi := { dst := some 19, op := Op.fieldAddr 35 (Operand.tmp 8) 0, type := 0, pos := "do.go:29", after := #[], guard := none }) (v := ?_) rfl (by kernel_rfl) (by kernel_rfl) (by kernel_rfl) (fun _ _ _ h => h) (Or.inl ⟨by rfl, ?_⟩) (by assumption) ?_
  rotate_left
  · (intro w hSw; (try dsimp only at hSw); go_simp; try with_reducible rfl)
  try simp only [Act.put, List.setIfInBounds_toArray, List.set_cons_zero, List.set_cons_succ]
  refine wpAnyH_take (i := 2) (oi := { dst := some 20, op := Op.load 3 (Operand.tmp 19), type := 3, pos := "do.go:29", after := #[{ on := 1, ground := Ground.data }], guard := none }) (v := ?_) rfl (by kernel_rfl) (by kernel_rfl) (by kernel_rfl) (fun _ _ _ h => h) (Or.inl ⟨by rfl, ?_⟩) (by assumption) ?_
  rotate_left
  · (intro w hSw; (try dsimp only at hSw); (obtain ⟨R1, I1, Z1⟩ := hSw); obtain ⟨k0, k1, k2, k3, k4, k5⟩ := cells6 I1; go_simp; try with_reducible rfl)
  try simp only [Act.put, List.setIfInBounds_toArray, List.set_cons_zero, List.set_cons_succ]
  refine wpAnyH_ready (rs := [0, 7]) (by kernel_rfl) (by simp) ?_
  refine (AllReadyH.cons (o := { dst := some 18, op := Op.call { callee := Callee.value (Operand.func 24), args := #[], argTypes := #[] }, type := 62, pos := "do.go:29", after := #[], guard := none }) rfl (fun K hK => ?_) (AllReadyH.cons (o := { dst := some 13, op := Op.alloc 60, type := 0, pos := "do.go:29", after := #[], guard := none }) rfl (fun K hK => ?_) AllReadyH.nil))
  · skip
    go_simp
    go_at_call 24
    refine (instrA_c _).mono ?_
    rintro e w1 ⟨m, rfl, hT, hg⟩
    have G1 := gr_trans (gr_drew G0) hg
    obtain ⟨pf, x, y, ok, hl, h1, hfact⟩ := look_insA hT o ho
    have hs1 : ∀ a W m, (store a pf m).run Try.prog W = stored Try.prog W a pf m := fun a W m => run_store Try.prog W a pf m h1
    go_wp2_with fail
    refine hK.out _ _ ?_ (fun hHeld => ?_)
    · exact ⟨Row.grown hHeld.1 hg (by simp), Row.grown hHeld.2.1 hg (by simp), Row.grown hHeld.2.2 hg (by simp)⟩
    clear hK K
    try simp only [Act.put, List.setIfInBounds_toArray, List.set_cons_zero, List.set_cons_succ]
    have H1 := hHeld
    have hl0 := hl _ (gr_refl w1 none)
    refine wpAnyH_ready (rs := [3, 7]) (by kernel_rfl) (by simp) ?_
    refine (AllReadyH.cons (o := { dst := some 21, op := Op.lookup 62 (Operand.tmp 18) (Operand.tmp 20) true, type := 61, pos := "do.go:29", after := #[{ on := 0, ground := Ground.data }, { on := 2, ground := Ground.data }], guard := none }) rfl (fun K hK => ?_) (AllReadyH.cons (o := { dst := some 13, op := Op.alloc 60, type := 0, pos := "do.go:29", after := #[], guard := none }) rfl (fun K hK => ?_) AllReadyH.nil))
    · skip
      go_simp
      skip
      refine hK.out _ _ ?_ (fun hHeld => ?_)
      · exact hHeld
      clear hK K
      try simp only [Act.put, List.setIfInBounds_toArray, List.set_cons_zero, List.set_cons_succ]
      refine wpAnyH_take (i := 4) (oi := { dst := some 17, op := Op.move (Operand.tmp 21), type := 61, pos := "do.go:29", after := #[{ on := 3, ground := Ground.data }], guard := none }) (v := ?_) rfl (by kernel_rfl) (by kernel_rfl) (by kernel_rfl) (fun _ _ _ h => h) (Or.inl ⟨by rfl, ?_⟩) (by assumption) ?_
      rotate_left
      · (intro w hSw; (try dsimp only at hSw); go_simp; try with_reducible rfl)
      try simp only [Act.put, List.setIfInBounds_toArray, List.set_cons_zero, List.set_cons_succ]
      refine wpAnyH_take (i := 5) (oi := { dst := some 22, op := Op.extract (Operand.tmp 17) 0, type := 60, pos := "do.go:29", after := #[{ on := 4, ground := Ground.data }], guard := none }) (v := ?_) rfl (by kernel_rfl) (by kernel_rfl) (by kernel_rfl) (fun _ _ _ h => h) (Or.inl ⟨by rfl, ?_⟩) (by assumption) ?_
      rotate_left
      · (intro w hSw; (try dsimp only at hSw); go_simp; try with_reducible rfl)
      try simp only [Act.put, List.setIfInBounds_toArray, List.set_cons_zero, List.set_cons_succ]
      refine wpAnyH_take (i := 6) (oi := { dst := some 23, op := Op.extract (Operand.tmp 17) 1, type := 4, pos := "do.go:29", after := #[{ on := 4, ground := Ground.data }, { on := 8, ground := Ground.gcOnly Departure.lateStores }], guard := none }) (v := ?_) rfl (by kernel_rfl) (by kernel_rfl) (by kernel_rfl) (fun _ _ _ h => h) (Or.inl ⟨by rfl, ?_⟩) (by assumption) ?_
      rotate_left
      · (intro w hSw; (try dsimp only at hSw); go_simp; try with_reducible rfl)
      try simp only [Act.put, List.setIfInBounds_toArray, List.set_cons_zero, List.set_cons_succ]
      refine wpAnyH_ready (rs := [7]) (by kernel_rfl) (by simp) ?_
      refine (AllReadyH.cons (o := { dst := some 13, op := Op.alloc 60, type := 0, pos := "do.go:29", after := #[], guard := none }) rfl (fun K hK => ?_) AllReadyH.nil)
      go_simp
      skip
      refine hK.out _ _ ?_ (fun hHeld => ?_)
      · exact ⟨Row.alloc hHeld.1 _, Row.alloc hHeld.2.1 _, Row.alloc hHeld.2.2 _⟩
      clear hK K
      try simp only [Act.put, List.setIfInBounds_toArray, List.set_cons_zero, List.set_cons_succ]
      refine wpAnyH_ready (rs := [8]) (by kernel_rfl) (by simp) ?_
      refine (AllReadyH.cons (o := { dst := none, op := Op.store 60 (Operand.tmp 13) (Operand.tmp 22), type := 0, pos := "do.go:29", after := #[{ on := 7, ground := Ground.data }, { on := 5, ground := Ground.data }, { on := 0, ground := Ground.chain }, { on := 0, ground := Ground.phase }, { on := 1, ground := Ground.phase }, { on := 2, ground := Ground.phase }, { on := 3, ground := Ground.phase }, { on := 4, ground := Ground.phase }, { on := 5, ground := Ground.phase }, { on := 6, ground := Ground.textOnly Departure.lateStores }, { on := 7, ground := Ground.phase }], guard := none }) rfl (fun K hK => ?_) AllReadyH.nil)
      go_simp
      skip
      refine hK.out _ _ ?_ (fun hHeld => ?_)
      · exact ⟨Row.alloc H1.1 _, Row.alloc H1.2.1 _, Row.alloc H1.2.2 _⟩
      clear hK K
      try simp only [Act.put, List.setIfInBounds_toArray, List.set_cons_zero, List.set_cons_succ]
      refine wpAnyH_take (i := 9) (oi := { dst := some 12, op := Op.assign (Operand.tmp 23), type := 4, pos := "do.go:29", after := #[{ on := 6, ground := Ground.data }, { on := 8, ground := Ground.chain }, { on := 0, ground := Ground.phase }, { on := 1, ground := Ground.phase }, { on := 2, ground := Ground.phase }, { on := 3, ground := Ground.phase }, { on := 4, ground := Ground.phase }, { on := 5, ground := Ground.phase }, { on := 6, ground := Ground.phase }, { on := 7, ground := Ground.phase }, { on := 8, ground := Ground.phase }], guard := none }) (v := ?_) rfl (by kernel_rfl) (by kernel_rfl) (by kernel_rfl) (fun _ _ _ h => h) (Or.inl ⟨by rfl, ?_⟩) (by assumption) ?_
      rotate_left
      · (intro w hSw; (try dsimp only at hSw); go_simp; try with_reducible rfl)
      try simp only [Act.put, List.setIfInBounds_toArray, List.set_cons_zero, List.set_cons_succ]
      refine wpAnyH_done (by kernel_rfl) ?_ _
      exact tail _ _ _ _ _ _ _ (Row.alloc H1.1 _) (Row.alloc H1.2.1 _) (Row.alloc H1.2.2 _) (Row.fresh w1 60 [pf, .bool x, .bool y]) (gr_alloc G1 _) hfact
    · skip
      go_simp
      skip
      refine hK.out _ _ ?_ (fun hHeld => ?_)
      · exact ⟨Row.alloc hHeld.1 _, Row.alloc hHeld.2.1 _, Row.alloc hHeld.2.2 _⟩
      clear hK K
      try simp only [Act.put, List.setIfInBounds_toArray, List.set_cons_zero, List.set_cons_succ]
      have hl1 := hl _ (gr_alloc (gr_refl w1 none) (.cells #[.nilFunc, .bool false, .bool false] 60))
      refine wpAnyH_ready (rs := [3]) (by kernel_rfl) (by simp) ?_
      refine (AllReadyH.cons (o := { dst := some 21, op := Op.lookup 62 (Operand.tmp 18) (Operand.tmp 20) true, type := 61, pos := "do.go:29", after := #[{ on := 0, ground := Ground.data }, { on := 2, ground := Ground.data }], guard := none }) rfl (fun K hK => ?_) AllReadyH.nil)
      go_simp
      skip
      refine hK.out _ _ ?_ (fun hHeld => ?_)
      · exact hHeld
      clear hK K
      try simp only [Act.put, List.setIfInBounds_toArray, List.set_cons_zero, List.set_cons_succ]
      refine wpAnyH_take (i := 4) (oi := { dst := some 17, op := Op.move (Operand.tmp 21), type := 61, pos := "do.go:29", after := #[{ on := 3, ground := Ground.data }], guard := none }) (v := ?_) rfl (by kernel_rfl) (by kernel_rfl) (by kernel_rfl) (fun _ _ _ h => h) (Or.inl ⟨by rfl, ?_⟩) (by assumption) ?_
      rotate_left
      · (intro w hSw; (try dsimp only at hSw); go_simp; try with_reducible rfl)
      try simp only [Act.put, List.setIfInBounds_toArray, List.set_cons_zero, List.set_cons_succ]
      refine wpAnyH_take (i := 5) (oi := { dst := some 22, op := Op.extract (Operand.tmp 17) 0, type := 60, pos := "do.go:29", after := #[{ on := 4, ground := Ground.data }], guard := none }) (v := ?_) rfl (by kernel_rfl) (by kernel_rfl) (by kernel_rfl) (fun _ _ _ h => h) (Or.inl ⟨by rfl, ?_⟩) (by assumption) ?_
      rotate_left
      · (intro w hSw; (try dsimp only at hSw); go_simp; try with_reducible rfl)
      try simp only [Act.put, List.setIfInBounds_toArray, List.set_cons_zero, List.set_cons_succ]
      refine wpAnyH_take (i := 6) (oi := { dst := some 23, op := Op.extract (Operand.tmp 17) 1, type := 4, pos := "do.go:29", after := #[{ on := 4, ground := Ground.data }, { on := 8, ground := Ground.gcOnly Departure.lateStores }], guard := none }) (v := ?_) rfl (by kernel_rfl) (by kernel_rfl) (by kernel_rfl) (fun _ _ _ h => h) (Or.inl ⟨by rfl, ?_⟩) (by assumption) ?_
      rotate_left
      · (intro w hSw; (try dsimp only at hSw); go_simp; try with_reducible rfl)
      try simp only [Act.put, List.setIfInBounds_toArray, List.set_cons_zero, List.set_cons_succ]
      refine wpAnyH_ready (rs := [8]) (by kernel_rfl) (by simp) ?_
      refine (AllReadyH.cons (o := { dst := none, op := Op.store 60 (Operand.tmp 13) (Operand.tmp 22), type := 0, pos := "do.go:29", after := #[{ on := 7, ground := Ground.data }, { on := 5, ground := Ground.data }, { on := 0, ground := Ground.chain }, { on := 0, ground := Ground.phase }, { on := 1, ground := Ground.phase }, { on := 2, ground := Ground.phase }, { on := 3, ground := Ground.phase }, { on := 4, ground := Ground.phase }, { on := 5, ground := Ground.phase }, { on := 6, ground := Ground.textOnly Departure.lateStores }, { on := 7, ground := Ground.phase }], guard := none }) rfl (fun K hK => ?_) AllReadyH.nil)
      go_simp
      skip
      refine hK.out _ _ ?_ (fun hHeld => ?_)
      · exact ⟨Row.alloc H1.1 _, Row.alloc H1.2.1 _, Row.alloc H1.2.2 _⟩
      clear hK K
      try simp only [Act.put, List.setIfInBounds_toArray, List.set_cons_zero, List.set_cons_succ]
      refine wpAnyH_take (i := 9) (oi := { dst := some 12, op := Op.assign (Operand.tmp 23), type := 4, pos := "do.go:29", after := #[{ on := 6, ground := Ground.data }, { on := 8, ground := Ground.chain }, { on := 0, ground := Ground.phase }, { on := 1, ground := Ground.phase }, { on := 2, ground := Ground.phase }, { on := 3, ground := Ground.phase }, { on := 4, ground := Ground.phase }, { on := 5, ground := Ground.phase }, { on := 6, ground := Ground.phase }, { on := 7, ground := Ground.phase }, { on := 8, ground := Ground.phase }], guard := none }) (v := ?_) rfl (by kernel_rfl) (by kernel_rfl) (by kernel_rfl) (fun _ _ _ h => h) (Or.inl ⟨by rfl, ?_⟩) (by assumption) ?_
      rotate_left
      · (intro w hSw; (try dsimp only at hSw); go_simp; try with_reducible rfl)
      try simp only [Act.put, List.setIfInBounds_toArray, List.set_cons_zero, List.set_cons_succ]
      refine wpAnyH_done (by kernel_rfl) ?_ _
      exact tail _ _ _ _ _ _ _ (Row.alloc H1.1 _) (Row.alloc H1.2.1 _) (Row.alloc H1.2.2 _) (Row.fresh w1 60 [pf, .bool x, .bool y]) (gr_alloc G1 _) hfact
  · skip
    go_simp
    skip
    refine hK.out _ _ ?_ (fun hHeld => ?_)
    · exact ⟨Row.alloc hHeld.1 _, Row.alloc hHeld.2.1 _, Row.alloc hHeld.2.2 _⟩
    clear hK K
    try simp only [Act.put, List.setIfInBounds_toArray, List.set_cons_zero, List.set_cons_succ]
    refine wpAnyH_ready (rs := [0]) (by kernel_rfl) (by simp) ?_
    refine (AllReadyH.cons (o := { dst := some 18, op := Op.call { callee := Callee.value (Operand.func 24), args := #[], argTypes := #[] }, type := 62, pos := "do.go:29", after := #[], guard := none }) rfl (fun K hK => ?_) AllReadyH.nil)
    go_simp
    go_at_call 24
    refine (instrA_c _).mono ?_
    rintro e w1 ⟨m, rfl, hT, hg⟩
    have G1 := gr_trans (gr_drew (gr_alloc G0 _)) hg
    obtain ⟨pf, x, y, ok, hl, h1, hfact⟩ := look_insA hT o ho
    have hs1 : ∀ a W m, (store a pf m).run Try.prog W = stored Try.prog W a pf m := fun a W m => run_store Try.prog W a pf m h1
    have H7 : Row w1 V.heap.size 60 [.nilFunc, .bool false, .bool false] := Row.grown (by exact Row.fresh V 60 [.nilFunc, .bool false, .bool false]) hg (by simp)
    have hl0 := hl _ (gr_refl w1 none)
    go_wp2_with fail
    refine hK.out _ _ ?_ (fun hHeld => ?_)
    · exact ⟨Row.grown hHeld.1 hg (by simp), Row.grown hHeld.2.1 hg (by simp), Row.grown hHeld.2.2 hg (by simp)⟩
    clear hK K
    try simp only [Act.put, List.setIfInBounds_toArray, List.set_cons_zero, List.set_cons_succ]
    refine wpAnyH_ready (rs := [3]) (by kernel_rfl) (by simp) ?_
    refine (AllReadyH.cons (o := { dst := some 21, op := Op.lookup 62 (Operand.tmp 18) (Operand.tmp 20) true, type := 61, pos := "do.go:29", after := #[{ on := 0, ground := Ground.data }, { on := 2, ground := Ground.data }], guard := none }) rfl (fun K hK => ?_) AllReadyH.nil)
    go_simp
    skip
    refine hK.out _ _ ?_ (fun hHeld => ?_)
    · exact hHeld
    clear hK K
    try simp only [Act.put, List.setIfInBounds_toArray, List.set_cons_zero, List.set_cons_succ]
    refine wpAnyH_take (i := 4) (oi := { dst := some 17, op := Op.move (Operand.tmp 21), type := 61, pos := "do.go:29", after := #[{ on := 3, ground := Ground.data }], guard := none }) (v := ?_) rfl (by kernel_rfl) (by kernel_rfl) (by kernel_rfl) (fun _ _ _ h => h) (Or.inl ⟨by rfl, ?_⟩) (by assumption) ?_
    rotate_left
    · (intro w hSw; (try dsimp only at hSw); go_simp; try with_reducible rfl)
    try simp only [Act.put, List.setIfInBounds_toArray, List.set_cons_zero, List.set_cons_succ]
    refine wpAnyH_take (i := 5) (oi := { dst := some 22, op := Op.extract (Operand.tmp 17) 0, type := 60, pos := "do.go:29", after := #[{ on := 4, ground := Ground.data }], guard := none }) (v := ?_) rfl (by kernel_rfl) (by kernel_rfl) (by kernel_rfl) (fun _ _ _ h => h) (Or.inl ⟨by rfl, ?_⟩) (by assumption) ?_
    rotate_left
    · (intro w hSw; (try dsimp only at hSw); go_simp; try with_reducible rfl)
    try simp only [Act.put, List.setIfInBounds_toArray, List.set_cons_zero, List.set_cons_succ]
    refine wpAnyH_take (i := 6) (oi := { dst := some 23, op := Op.extract (Operand.tmp 17) 1, type := 4, pos := "do.go:29", after := #[{ on := 4, ground := Ground.data }, { on := 8, ground := Ground.gcOnly Departure.lateStores }], guard := none }) (v := ?_) rfl (by kernel_rfl) (by kernel_rfl) (by kernel_rfl) (fun _ _ _ h => h) (Or.inl ⟨by rfl, ?_⟩) (by assumption) ?_
    rotate_left
    · (intro w hSw; (try dsimp only at hSw); go_simp; try with_reducible rfl)
    try simp only [Act.put, List.setIfInBounds_toArray, List.set_cons_zero, List.set_cons_succ]
    have H1 := hHeld
    have n1 : q ≠ V.heap.size := by have := R1.lt; omega
    have n2 : q + 1 ≠ V.heap.size := by have := I1.lt; omega
    have n3 : q + 1 + 1 ≠ V.heap.size := by have := Z1.lt; omega
    have s0 := G0.size
    refine wpAnyH_ready (rs := [8]) (by kernel_rfl) (by simp) ?_
    refine (AllReadyH.cons (o := { dst := none, op := Op.store 60 (Operand.tmp 13) (Operand.tmp 22), type := 0, pos := "do.go:29", after := #[{ on := 7, ground := Ground.data }, { on := 5, ground := Ground.data }, { on := 0, ground := Ground.chain }, { on := 0, ground := Ground.phase }, { on := 1, ground := Ground.phase }, { on := 2, ground := Ground.phase }, { on := 3, ground := Ground.phase }, { on := 4, ground := Ground.phase }, { on := 5, ground := Ground.phase }, { on := 6, ground := Ground.textOnly Departure.lateStores }, { on := 7, ground := Ground.phase }], guard := none }) rfl (fun K hK => ?_) AllReadyH.nil)
    obtain ⟨c0, c1, c2⟩ := cells3 H7
    have zf := H7.free
    go_simp
    skip
    refine hK.out _ _ ?_ (fun hHeld => ?_)
    · exact ⟨(Row.other (Row.other (Row.other H1.1 n1 _) n1 _) n1 _), (Row.other (Row.other (Row.other H1.2.1 n2 _) n2 _) n2 _), (Row.other (Row.other (Row.other H1.2.2 n3 _) n3 _) n3 _)⟩
    clear hK K
    try simp only [Act.put, List.setIfInBounds_toArray, List.set_cons_zero, List.set_cons_succ]
    refine wpAnyH_take (i := 9) (oi := { dst := some 12, op := Op.assign (Operand.tmp 23), type := 4, pos := "do.go:29", after := #[{ on := 6, ground := Ground.data }, { on := 8, ground := Ground.chain }, { on := 0, ground := Ground.phase }, { on := 1, ground := Ground.phase }, { on := 2, ground := Ground.phase }, { on := 3, ground := Ground.phase }, { on := 4, ground := Ground.phase }, { on := 5, ground := Ground.phase }, { on := 6, ground := Ground.phase }, { on := 7, ground := Ground.phase }, { on := 8, ground := Ground.phase }], guard := none }) (v := ?_) rfl (by kernel_rfl) (by kernel_rfl) (by kernel_rfl) (fun _ _ _ h => h) (Or.inl ⟨by rfl, ?_⟩) (by assumption) ?_
    rotate_left
    · (intro w hSw; (try dsimp only at hSw); go_simp; try with_reducible rfl)
    try simp only [Act.put, List.setIfInBounds_toArray, List.set_cons_zero, List.set_cons_succ]
    refine wpAnyH_done (by kernel_rfl) ?_ _
    exact tail _ _ _ _ _ _ _ (Row.other (Row.other (Row.other H1.1 n1 _) n1 _) n1 _) (Row.other (Row.other (Row.other H1.2.1 n2 _) n2 _) n2 _) (Row.other (Row.other (Row.other H1.2.2 n3 _) n3 _) n3 _) (((H7.put 0 pf).put 1 (.bool x)).put 2 (.bool y)) (gr_row (gr_set (gr_set (gr_set (gr_none G1 _) _) _) _) s0) hfact
end Go.Proofs.Ytlbhkmigbnhngaa
