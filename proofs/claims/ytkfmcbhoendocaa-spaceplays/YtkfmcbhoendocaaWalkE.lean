/-
  What Walk of package walk answers: a contract over the program's translation.
  Conditions: the arguments are numbers of their kinds; memory stands behind its pointer.
-/
import Derived.Test.YtkfmcbhoendocaaWalkD
import Derived.WalkMore
namespace Go.Proofs.Ytkfmcbhoendocaa
open Go Go.RowKit W M D A C P K
set_option linter.unusedVariables false

set_option maxRecDepth 100000 in
set_option maxHeartbeats 4000000 in
theorem Walk_c (p g : Nat) (bs : List Int) (c : Cs) (hc : C.Good c) (priv kind va : Int) (hp : I64 priv) (hk : I64 kind) (hv : B64 va) (w : World) (hm : RAt w p g bs) :
    Calls Try.prog 58 #[.pointer (some ⟨p, 0, none⟩), vC c, .int .i64 priv, .int .i64 kind, .int .u64 va] w fun e w' => e = .returned (.tuple #[vL (walkV bs (gC c 9) (gC c 0) priv kind va), vF (walkV bs (gC c 9) (gC c 0) priv kind va)]) ∧ w.grownBy w' none := by
  have h9 := hc.get 9
  have h0 := hc.get 0
  have HF0 := Lib.hid (Frm.start (c := c) w hm)
  have PG := Lib.hid (fun W => Paged_c c hc W)
  obtain ⟨a0, a1, a2, a3, a4, a5, a6, a7, a8, a9, a10, a11, rfl⟩ := twelve hc.1
  have h9 : B64 a9 := h9
  have h0 : B64 a0 := h0
  rw [show gC [a0, a1, a2, a3, a4, a5, a6, a7, a8, a9, a10, a11] 9 = a9 from rfl] at *
  rw [show gC [a0, a1, a2, a3, a4, a5, a6, a7, a8, a9, a10, a11] 0 = a0 from rfl] at *
  rw [show vC [a0, a1, a2, a3, a4, a5, a6, a7, a8, a9, a10, a11] = .agg #[.int .u64 a0, .int .u64 a1, .int .u64 a2, .int .u64 a3, .int .u64 a4, .int .u64 a5, .int .u64 a6, .int .u64 a7, .int .u64 a8, .int .u64 a9, .int .u64 a10, .int .u64 a11] from rfl] at *
  have CN := Lib.hid (fun W => Canonical_c va hv W)
  have PF := Lib.hid (fun W => PageFault_c kind va hk W)
  have NA := Lib.hid (fun W => NoAddress_c kind va hk W)
  unfold vFault at PF NA
  have HV := Lib.hid hv
  have HK := Lib.hid hk
  have HP := Lib.hid hp
  have H0 := Lib.hid h0
  obtain ⟨R, hR⟩ : ∃ R, R = walkV bs a9 a0 priv kind va := ⟨_, rfl⟩
  rw [← hR]
  unfold walkV at hR
  have hmask : bits .and .u64 a9 17592186044415 = a9 % 17592186044416 := aLow a9 44 (by omega) h9
  clear hc hm
  unfold B64 at h9 h0 hv
  unfold I64 at hp hk
  go_enter Try.func58, Try.ntmps58
  go_wp2_with fail
  have hF := HF0.out
  clear HF0
  unfold lC lLeaf lFault at hF
  simp only [List.map_cons, List.map_nil] at hF
  generalize ((w.alloc (.cells #[.int .u64 a0, .int .u64 a1, .int .u64 a2, .int .u64 a3, .int .u64 a4, .int .u64 a5, .int .u64 a6, .int .u64 a7, .int .u64 a8, .int .u64 a9, .int .u64 a10, .int .u64 a11] 24)).alloc (.cells #[.int .u64 0, .int .i64 0, .bool false] 52)).alloc (.cells #[.bool false, .int .i64 0, .int .u64 0] 48) = V at *
  generalize w.heap.size = b at *
  have k0 : V.cell? ⟨b, 0, none⟩ = some (.int .u64 a0) := hF.csr.cell 0
  have k1 : V.cell? ⟨b, 1, none⟩ = some (.int .u64 a1) := hF.csr.cell 1
  have k2 : V.cell? ⟨b, 2, none⟩ = some (.int .u64 a2) := hF.csr.cell 2
  have k3 : V.cell? ⟨b, 3, none⟩ = some (.int .u64 a3) := hF.csr.cell 3
  have k4 : V.cell? ⟨b, 4, none⟩ = some (.int .u64 a4) := hF.csr.cell 4
  have k5 : V.cell? ⟨b, 5, none⟩ = some (.int .u64 a5) := hF.csr.cell 5
  have k6 : V.cell? ⟨b, 6, none⟩ = some (.int .u64 a6) := hF.csr.cell 6
  have k7 : V.cell? ⟨b, 7, none⟩ = some (.int .u64 a7) := hF.csr.cell 7
  have k8 : V.cell? ⟨b, 8, none⟩ = some (.int .u64 a8) := hF.csr.cell 8
  have k9 : V.cell? ⟨b, 9, none⟩ = some (.int .u64 a9) := hF.csr.cell 9
  have k10 : V.cell? ⟨b, 10, none⟩ = some (.int .u64 a10) := hF.csr.cell 10
  have k11 : V.cell? ⟨b, 11, none⟩ = some (.int .u64 a11) := hF.csr.cell 11
  have HFV := Lib.hid hF
  have ltb := hF.csr.lt
  clear hF
  go_step3
  go_wp2_with fail
  refine (PG.out _).mono ?_
  rintro e w1 ⟨rfl, hG⟩
  have hF := HFV.out.keep hG
  clear hG HFV PG k0 k1 k2 k3 k4 k5 k6 k7 k8 k9 k10 k11
  cases hpg : pagedV a9
  · rw [hpg, if_neg (by simp)] at hR
    subst hR
    obtain ⟨⟨z0, z1, z2⟩, ⟨y0, y1, y2⟩, fz, fy, lt⟩ := hF.facts
    have dn := Lib.hid (hF.done (.int .u64 0) (.int .i64 0) (.bool false) (.bool false) (.int .i64 0) (.int .u64 0))
    have HH := Lib.hid hF
    clear hF
    go_wp2_with fail
    try rw [Exit.noGoto_ret]
    exact ret_LF (e := 0) (l := 0) (gl := false) (b := false) (c := 0) (v := 0) rfl rfl rfl rfl dn.out.1 dn.out.2.1 ⟨rfl, dn.out.2.2⟩
  · rw [hpg, if_pos rfl] at hR
    clear hpg
    go_wp2_with fail
    refine (CN.out _).mono ?_
    rintro e w' ⟨rfl, rfl⟩
    cases hcan : canonV va
    · rw [hcan, if_neg (by simp)] at hR
      subst hR
      clear hcan
      go_wp2_with fail
      refine (PF.out _).mono ?_
      rintro e w2 ⟨rfl, hG⟩
      have hw2 := hF.keep hG
      clear hG hF
      obtain ⟨⟨z0, z1, z2⟩, ⟨y0, y1, y2⟩, fz, fy, lt⟩ := hw2.facts
      have dn := Lib.hid (hw2.done (.int .u64 0) (.int .i64 0) (.bool false) (.bool true) (.int .i64 (pfC kind)) (.int .u64 va))
      have HH := Lib.hid hw2
      clear hw2
      go_wp2_with fail
      try rw [Exit.noGoto_ret]
      exact ret_LF (e := 0) (l := 0) (gl := false) (b := true) (c := (pfC kind)) (v := va) rfl rfl rfl rfl dn.out.1 dn.out.2.1 ⟨rfl, dn.out.2.2⟩
    · rw [hcan, if_pos rfl] at hR
      clear hcan
      have k9 : w1.cell? ⟨b, 9, none⟩ = some (.int .u64 a9) := hF.csr.cell 9
      have ltb := hF.csr.lt
      have hpb : 0 ≤ a9 % 17592186044416 ∧ a9 % 17592186044416 ≤ 17592186044415 := by omega
      generalize hpage : a9 % 17592186044416 = page0 at *
      have HR := Lib.hid hR
      have HFF := Lib.hid hF
      clear hR hF hpage
      go_wp2_with fail
      go_step3
      go_wp2_with fail
      go_loopw [12, 13, 14] (fun x y i wr => ∃ (n : Nat) (page : Int) (gl : Bool), n ≤ 3 ∧ (0 ≤ page ∧ page ≤ 17592186044415) ∧ x = .int .u64 page ∧ y = .bool gl ∧ i = .int .i64 ((n : Int) - 1) ∧ R = downV bs va kind priv a0 n page gl ∧ Frm 161 w b p g bs [a0, a1, a2, a3, a4, a5, a6, a7, a8, a9, a10, a11] wr) (fun _ _ i _ => (intOf i + 1).toNat)
      case atStart => exact ⟨3, page0, false, by omega, hpb, rfl, rfl, rfl, HR.out, HFF.out⟩
      case round =>
        clear k9 HR HFF ltb hpb hmask
        obtain ⟨n, page, gl, hn, hpb, rfl, rfl, rfl, hR, hF⟩ := hrel
        cases n with
        | zero =>
          rw [show ((0 : Nat) : Int) - 1 = -1 from rfl]
          replace hR : R = faultV (pfC kind) va := hR
          subst hR
          go_wp2_with fail
          refine (PF.out _).mono ?_
          rintro e w2 ⟨rfl, hG⟩
          have hw2 := hF.keep hG
          clear hG hF
          obtain ⟨⟨z0, z1, z2⟩, ⟨y0, y1, y2⟩, fz, fy, lt⟩ := hw2.facts
          have dn := Lib.hid (hw2.done (.int .u64 0) (.int .i64 0) (.bool false) (.bool true) (.int .i64 (pfC kind)) (.int .u64 va))
          have HH := Lib.hid hw2
          clear hw2
          go_wp2_with fail
          try rw [Exit.noGoto_ret]
          exact ret_LF (e := 0) (l := 0) (gl := false) (b := true) (c := (pfC kind)) (v := va) rfl rfl rfl rfl dn.out.1 dn.out.2.1 ⟨rfl, dn.out.2.2⟩
        | succ n =>
          rw [show ((n + 1 : Nat) : Int) - 1 = n from by omega]
          have VP := Lib.hid (fun W => Vpn_c va n HV.out (by unfold I64; omega) W)
          have hvb := vpn_bd (n := (n : Int)) HV.out
          have hadr := addr_bd (n := (n : Int)) hpb HV.out
          have GE := Lib.hid (fun W hW => Get_c p g bs (addrV page va n) 8 W hW hadr (by omega))
          have he := get_64 hF.mem.byt (addrV page va n)
          unfold downV at hR
          generalize okB bs.length (addrV page va n) 8 = ok at *
          generalize getV bs (addrV page va n) 8 = E at *
          unfold addrV at GE hadr
          generalize vpnV va n = vp at *
          unfold B64 at hadr
          have HE := Lib.hid he
          have HN := Lib.hid (show I64 (n : Int) from by unfold I64; omega)
          have AL := Lib.hid (fun W => Aligned_c E n HE.out HN.out W)
          have TB := Lib.hid (fun W => Table_c E HE.out W)
          have MY := Lib.hid (fun W => May_c E kind priv a0 HE.out HK.out HP.out H0.out W)
          have PA := Lib.hid (fun W => Page_c E HE.out W)
          have hpe := page_bd HE.out
          have h32 := a32 E HE.out
          unfold B64 at he
          go_wp2_with fail
          refine (VP.out _).mono ?_
          rintro e w' ⟨rfl, rfl⟩
          go_wp2_with fail
          refine (GE.out _ hF.mem).mono ?_
          rintro e w' ⟨rfl, rfl⟩
          cases ok
          · rw [if_pos rfl] at hR
            subst hR
            clear h32
            go_wp2_with fail
            refine (NA.out _).mono ?_
            rintro e w2 ⟨rfl, hG⟩
            have hw2 := hF.keep hG
            clear hG hF
            obtain ⟨⟨z0, z1, z2⟩, ⟨y0, y1, y2⟩, fz, fy, lt⟩ := hw2.facts
            have dn := Lib.hid (hw2.done (.int .u64 0) (.int .i64 0) (.bool false) (.bool true) (.int .i64 (naC kind)) (.int .u64 va))
            have HH := Lib.hid hw2
            clear hw2
            go_wp2_with fail
            try rw [Exit.noGoto_ret]
            exact ret_LF (e := 0) (l := 0) (gl := false) (b := true) (c := (naC kind)) (v := va) rfl rfl rfl rfl dn.out.1 dn.out.2.1 ⟨rfl, dn.out.2.2⟩
          · rw [if_neg (by simp)] at hR
            have hbt : E / 32 % 2 * 32 = 0 ∧ bt E 32 = false ∨ E / 32 % 2 * 32 = 32 ∧ bt E 32 = true := by
              unfold bt
              simp only [decide_eq_false_iff_not, decide_eq_true_eq]
              omega
            rcases hbt with ⟨hb0, hb1⟩ | ⟨hb0, hb1⟩

            · rw [hb0] at h32
              rw [hb1] at hR
              clear hb0 hb1
              cases gl
              · skip
                go_wp2_with fail
                refine (TB.out _).mono ?_
                rintro e w2 ⟨rfl, hG⟩
                have hF2 := hF.keep hG
                clear hG hF
                cases ht : tableV E
                · rw [ht, if_neg (by simp)] at hR
                  clear ht
                  go_wp2_with fail
                  refine (AL.out _).mono ?_
                  rintro e w' ⟨rfl, rfl⟩
                  cases hal : alignedV E n
                  · rw [hal, Bool.false_and, if_neg (by simp)] at hR
                    subst hR
                    clear hal
                    go_wp2_with fail
                    refine (PF.out _).mono ?_
                    rintro e w3 ⟨rfl, hG⟩
                    have hw3 := hF2.keep hG
                    clear hG hF2
                    obtain ⟨⟨z0, z1, z2⟩, ⟨y0, y1, y2⟩, fz, fy, lt⟩ := hw3.facts
                    have dn := Lib.hid (hw3.done (.int .u64 0) (.int .i64 0) (.bool false) (.bool true) (.int .i64 (pfC kind)) (.int .u64 va))
                    have HH := Lib.hid hw3
                    clear hw3
                    go_wp2_with fail
                    try rw [Exit.noGoto_ret]
                    exact ret_LF (e := 0) (l := 0) (gl := false) (b := true) (c := (pfC kind)) (v := va) rfl rfl rfl rfl dn.out.1 dn.out.2.1 ⟨rfl, dn.out.2.2⟩
                  · rw [hal, Bool.true_and] at hR
                    clear hal
                    have m0 : w2.cell? ⟨b, 0, none⟩ = some (.int .u64 a0) := hF2.csr.cell 0
                    have lm := hF2.csr.lt
                    go_wp2_with fail
                    refine (MY.out _).mono ?_
                    rintro e w3 ⟨rfl, hG⟩
                    have hF3 := hF2.keep hG
                    clear hG hF2 m0 lm
                    cases hmy : mayV E kind priv a0
                    · rw [hmy, if_neg (by simp)] at hR
                      subst hR
                      clear hmy
                      go_wp2_with fail
                      refine (PF.out _).mono ?_
                      rintro e w4 ⟨rfl, hG⟩
                      have hw4 := hF3.keep hG
                      clear hG hF3
                      obtain ⟨⟨z0, z1, z2⟩, ⟨y0, y1, y2⟩, fz, fy, lt⟩ := hw4.facts
                      have dn := Lib.hid (hw4.done (.int .u64 0) (.int .i64 0) (.bool false) (.bool true) (.int .i64 (pfC kind)) (.int .u64 va))
                      have HH := Lib.hid hw4
                      clear hw4
                      go_wp2_with fail
                      try rw [Exit.noGoto_ret]
                      exact ret_LF (e := 0) (l := 0) (gl := false) (b := true) (c := (pfC kind)) (v := va) rfl rfl rfl rfl dn.out.1 dn.out.2.1 ⟨rfl, dn.out.2.2⟩
                    · rw [hmy, if_pos rfl] at hR
                      subst hR
                      clear hmy
                      obtain ⟨⟨z0, z1, z2⟩, ⟨y0, y1, y2⟩, fz, fy, lt⟩ := hF3.facts
                      have dn := Lib.hid (hF3.done (.int .u64 E) (.int .i64 n) (.bool false) (.bool false) (.int .i64 0) (.int .u64 0))
                      have HH := Lib.hid hF3
                      clear hF3
                      go_wp2_with fail
                      try rw [Exit.noGoto_ret]
                      exact ret_LF (e := E) (l := n) (gl := false) (b := false) (c := 0) (v := 0) rfl rfl rfl rfl dn.out.1 dn.out.2.1 ⟨rfl, dn.out.2.2⟩
                · rw [ht, if_pos rfl] at hR
                  clear ht
                  go_wp2_with fail
                  refine (PA.out _).mono ?_
                  rintro e w' ⟨rfl, rfl⟩
                  go_wp2_with fail
                  go_roundw
                  case rel => exact ⟨n, pageV E, _, by omega, hpe, rfl, rfl, rfl, hR, hF2⟩
                  case measure => simp [intOf]

              · skip
                go_wp2_with fail
                refine (TB.out _).mono ?_
                rintro e w2 ⟨rfl, hG⟩
                have hF2 := hF.keep hG
                clear hG hF
                cases ht : tableV E
                · rw [ht, if_neg (by simp)] at hR
                  clear ht
                  go_wp2_with fail
                  refine (AL.out _).mono ?_
                  rintro e w' ⟨rfl, rfl⟩
                  cases hal : alignedV E n
                  · rw [hal, Bool.false_and, if_neg (by simp)] at hR
                    subst hR
                    clear hal
                    go_wp2_with fail
                    refine (PF.out _).mono ?_
                    rintro e w3 ⟨rfl, hG⟩
                    have hw3 := hF2.keep hG
                    clear hG hF2
                    obtain ⟨⟨z0, z1, z2⟩, ⟨y0, y1, y2⟩, fz, fy, lt⟩ := hw3.facts
                    have dn := Lib.hid (hw3.done (.int .u64 0) (.int .i64 0) (.bool false) (.bool true) (.int .i64 (pfC kind)) (.int .u64 va))
                    have HH := Lib.hid hw3
                    clear hw3
                    go_wp2_with fail
                    try rw [Exit.noGoto_ret]
                    exact ret_LF (e := 0) (l := 0) (gl := false) (b := true) (c := (pfC kind)) (v := va) rfl rfl rfl rfl dn.out.1 dn.out.2.1 ⟨rfl, dn.out.2.2⟩
                  · rw [hal, Bool.true_and] at hR
                    clear hal
                    have m0 : w2.cell? ⟨b, 0, none⟩ = some (.int .u64 a0) := hF2.csr.cell 0
                    have lm := hF2.csr.lt
                    go_wp2_with fail
                    refine (MY.out _).mono ?_
                    rintro e w3 ⟨rfl, hG⟩
                    have hF3 := hF2.keep hG
                    clear hG hF2 m0 lm
                    cases hmy : mayV E kind priv a0
                    · rw [hmy, if_neg (by simp)] at hR
                      subst hR
                      clear hmy
                      go_wp2_with fail
                      refine (PF.out _).mono ?_
                      rintro e w4 ⟨rfl, hG⟩
                      have hw4 := hF3.keep hG
                      clear hG hF3
                      obtain ⟨⟨z0, z1, z2⟩, ⟨y0, y1, y2⟩, fz, fy, lt⟩ := hw4.facts
                      have dn := Lib.hid (hw4.done (.int .u64 0) (.int .i64 0) (.bool false) (.bool true) (.int .i64 (pfC kind)) (.int .u64 va))
                      have HH := Lib.hid hw4
                      clear hw4
                      go_wp2_with fail
                      try rw [Exit.noGoto_ret]
                      exact ret_LF (e := 0) (l := 0) (gl := false) (b := true) (c := (pfC kind)) (v := va) rfl rfl rfl rfl dn.out.1 dn.out.2.1 ⟨rfl, dn.out.2.2⟩
                    · rw [hmy, if_pos rfl] at hR
                      subst hR
                      clear hmy
                      obtain ⟨⟨z0, z1, z2⟩, ⟨y0, y1, y2⟩, fz, fy, lt⟩ := hF3.facts
                      have dn := Lib.hid (hF3.done (.int .u64 E) (.int .i64 n) (.bool true) (.bool false) (.int .i64 0) (.int .u64 0))
                      have HH := Lib.hid hF3
                      clear hF3
                      go_wp2_with fail
                      try rw [Exit.noGoto_ret]
                      exact ret_LF (e := E) (l := n) (gl := true) (b := false) (c := 0) (v := 0) rfl rfl rfl rfl dn.out.1 dn.out.2.1 ⟨rfl, dn.out.2.2⟩
                · rw [ht, if_pos rfl] at hR
                  clear ht
                  go_wp2_with fail
                  refine (PA.out _).mono ?_
                  rintro e w' ⟨rfl, rfl⟩
                  go_wp2_with fail
                  go_roundw
                  case rel => exact ⟨n, pageV E, _, by omega, hpe, rfl, rfl, rfl, hR, hF2⟩
                  case measure => simp [intOf]

            · rw [hb0] at h32
              rw [hb1] at hR
              clear hb0 hb1
              cases gl
              · skip
                go_wp2_with fail
                refine (TB.out _).mono ?_
                rintro e w2 ⟨rfl, hG⟩
                have hF2 := hF.keep hG
                clear hG hF
                cases ht : tableV E
                · rw [ht, if_neg (by simp)] at hR
                  clear ht
                  go_wp2_with fail
                  refine (AL.out _).mono ?_
                  rintro e w' ⟨rfl, rfl⟩
                  cases hal : alignedV E n
                  · rw [hal, Bool.false_and, if_neg (by simp)] at hR
                    subst hR
                    clear hal
                    go_wp2_with fail
                    refine (PF.out _).mono ?_
                    rintro e w3 ⟨rfl, hG⟩
                    have hw3 := hF2.keep hG
                    clear hG hF2
                    obtain ⟨⟨z0, z1, z2⟩, ⟨y0, y1, y2⟩, fz, fy, lt⟩ := hw3.facts
                    have dn := Lib.hid (hw3.done (.int .u64 0) (.int .i64 0) (.bool false) (.bool true) (.int .i64 (pfC kind)) (.int .u64 va))
                    have HH := Lib.hid hw3
                    clear hw3
                    go_wp2_with fail
                    try rw [Exit.noGoto_ret]
                    exact ret_LF (e := 0) (l := 0) (gl := false) (b := true) (c := (pfC kind)) (v := va) rfl rfl rfl rfl dn.out.1 dn.out.2.1 ⟨rfl, dn.out.2.2⟩
                  · rw [hal, Bool.true_and] at hR
                    clear hal
                    have m0 : w2.cell? ⟨b, 0, none⟩ = some (.int .u64 a0) := hF2.csr.cell 0
                    have lm := hF2.csr.lt
                    go_wp2_with fail
                    refine (MY.out _).mono ?_
                    rintro e w3 ⟨rfl, hG⟩
                    have hF3 := hF2.keep hG
                    clear hG hF2 m0 lm
                    cases hmy : mayV E kind priv a0
                    · rw [hmy, if_neg (by simp)] at hR
                      subst hR
                      clear hmy
                      go_wp2_with fail
                      refine (PF.out _).mono ?_
                      rintro e w4 ⟨rfl, hG⟩
                      have hw4 := hF3.keep hG
                      clear hG hF3
                      obtain ⟨⟨z0, z1, z2⟩, ⟨y0, y1, y2⟩, fz, fy, lt⟩ := hw4.facts
                      have dn := Lib.hid (hw4.done (.int .u64 0) (.int .i64 0) (.bool false) (.bool true) (.int .i64 (pfC kind)) (.int .u64 va))
                      have HH := Lib.hid hw4
                      clear hw4
                      go_wp2_with fail
                      try rw [Exit.noGoto_ret]
                      exact ret_LF (e := 0) (l := 0) (gl := false) (b := true) (c := (pfC kind)) (v := va) rfl rfl rfl rfl dn.out.1 dn.out.2.1 ⟨rfl, dn.out.2.2⟩
                    · rw [hmy, if_pos rfl] at hR
                      subst hR
                      clear hmy
                      obtain ⟨⟨z0, z1, z2⟩, ⟨y0, y1, y2⟩, fz, fy, lt⟩ := hF3.facts
                      have dn := Lib.hid (hF3.done (.int .u64 E) (.int .i64 n) (.bool true) (.bool false) (.int .i64 0) (.int .u64 0))
                      have HH := Lib.hid hF3
                      clear hF3
                      go_wp2_with fail
                      try rw [Exit.noGoto_ret]
                      exact ret_LF (e := E) (l := n) (gl := true) (b := false) (c := 0) (v := 0) rfl rfl rfl rfl dn.out.1 dn.out.2.1 ⟨rfl, dn.out.2.2⟩
                · rw [ht, if_pos rfl] at hR
                  clear ht
                  go_wp2_with fail
                  refine (PA.out _).mono ?_
                  rintro e w' ⟨rfl, rfl⟩
                  go_wp2_with fail
                  go_roundw
                  case rel => exact ⟨n, pageV E, _, by omega, hpe, rfl, rfl, rfl, hR, hF2⟩
                  case measure => simp [intOf]

              · skip
                go_wp2_with fail
                refine (TB.out _).mono ?_
                rintro e w2 ⟨rfl, hG⟩
                have hF2 := hF.keep hG
                clear hG hF
                cases ht : tableV E
                · rw [ht, if_neg (by simp)] at hR
                  clear ht
                  go_wp2_with fail
                  refine (AL.out _).mono ?_
                  rintro e w' ⟨rfl, rfl⟩
                  cases hal : alignedV E n
                  · rw [hal, Bool.false_and, if_neg (by simp)] at hR
                    subst hR
                    clear hal
                    go_wp2_with fail
                    refine (PF.out _).mono ?_
                    rintro e w3 ⟨rfl, hG⟩
                    have hw3 := hF2.keep hG
                    clear hG hF2
                    obtain ⟨⟨z0, z1, z2⟩, ⟨y0, y1, y2⟩, fz, fy, lt⟩ := hw3.facts
                    have dn := Lib.hid (hw3.done (.int .u64 0) (.int .i64 0) (.bool false) (.bool true) (.int .i64 (pfC kind)) (.int .u64 va))
                    have HH := Lib.hid hw3
                    clear hw3
                    go_wp2_with fail
                    try rw [Exit.noGoto_ret]
                    exact ret_LF (e := 0) (l := 0) (gl := false) (b := true) (c := (pfC kind)) (v := va) rfl rfl rfl rfl dn.out.1 dn.out.2.1 ⟨rfl, dn.out.2.2⟩
                  · rw [hal, Bool.true_and] at hR
                    clear hal
                    have m0 : w2.cell? ⟨b, 0, none⟩ = some (.int .u64 a0) := hF2.csr.cell 0
                    have lm := hF2.csr.lt
                    go_wp2_with fail
                    refine (MY.out _).mono ?_
                    rintro e w3 ⟨rfl, hG⟩
                    have hF3 := hF2.keep hG
                    clear hG hF2 m0 lm
                    cases hmy : mayV E kind priv a0
                    · rw [hmy, if_neg (by simp)] at hR
                      subst hR
                      clear hmy
                      go_wp2_with fail
                      refine (PF.out _).mono ?_
                      rintro e w4 ⟨rfl, hG⟩
                      have hw4 := hF3.keep hG
                      clear hG hF3
                      obtain ⟨⟨z0, z1, z2⟩, ⟨y0, y1, y2⟩, fz, fy, lt⟩ := hw4.facts
                      have dn := Lib.hid (hw4.done (.int .u64 0) (.int .i64 0) (.bool false) (.bool true) (.int .i64 (pfC kind)) (.int .u64 va))
                      have HH := Lib.hid hw4
                      clear hw4
                      go_wp2_with fail
                      try rw [Exit.noGoto_ret]
                      exact ret_LF (e := 0) (l := 0) (gl := false) (b := true) (c := (pfC kind)) (v := va) rfl rfl rfl rfl dn.out.1 dn.out.2.1 ⟨rfl, dn.out.2.2⟩
                    · rw [hmy, if_pos rfl] at hR
                      subst hR
                      clear hmy
                      obtain ⟨⟨z0, z1, z2⟩, ⟨y0, y1, y2⟩, fz, fy, lt⟩ := hF3.facts
                      have dn := Lib.hid (hF3.done (.int .u64 E) (.int .i64 n) (.bool true) (.bool false) (.int .i64 0) (.int .u64 0))
                      have HH := Lib.hid hF3
                      clear hF3
                      go_wp2_with fail
                      try rw [Exit.noGoto_ret]
                      exact ret_LF (e := E) (l := n) (gl := true) (b := false) (c := 0) (v := 0) rfl rfl rfl rfl dn.out.1 dn.out.2.1 ⟨rfl, dn.out.2.2⟩
                · rw [ht, if_pos rfl] at hR
                  clear ht
                  go_wp2_with fail
                  refine (PA.out _).mono ?_
                  rintro e w' ⟨rfl, rfl⟩
                  go_wp2_with fail
                  go_roundw
                  case rel => exact ⟨n, pageV E, _, by omega, hpe, rfl, rfl, rfl, hR, hF2⟩
                  case measure => simp [intOf]

end Go.Proofs.Ytkfmcbhoendocaa
