/-
  Proved: for any two words and any number, the law EncNames returns true: unlike ops have unlike names, of letters and a point alone, and others none; and instructions of words have the same text just if they are the same, but for those that a text does not tell apart.
  Conditions: none beyond the statement's own (its listed variables are tied to the program's text).
-/
import Derived.Test.YtpbeamnogfjagaaGreatDoorRows
import Derived.Test.YtpbeamnogfjagaaGreatDoorCards
import Derived.Test.YtpbeamnogfjagaaGreatDoorTie
import Derived.Test.YtpbeamnogfjagaaGreatDoorOpen
import Derived.Lib.Hide
import Derived.SevenTiedAt
import Derived.Test.YtpbeamnogfjagaaGreatDoorEncDoor
import Derived.Test.YtpbeamnogfjagaaGreatDoorEncTi
namespace Go.Proofs.YtpbeamnogfjagaaGreatDoor.encNames
open Go Go.ChangeShapes Go.WideShapes Go.ChangeAt Go.RowKit F W M D E
set_option linter.unusedVariables false

/-- Two instructions stand in their blocks, and the tables where they stood. -/
def Two (w : World) (bx bY : Nat) (o rd rs1 rs2 im p sd ss1 ss2 jm : Int) (w' : World) : Prop :=
  w'.cell? ⟨bx, 0, none⟩ = some (.int .i64 o) ∧ w'.cell? ⟨bx, 1, none⟩ = some (.int .i64 rd) ∧ w'.cell? ⟨bx, 2, none⟩ = some (.int .i64 rs1) ∧ w'.cell? ⟨bx, 3, none⟩ = some (.int .i64 rs2) ∧ w'.cell? ⟨bx, 4, none⟩ = some (.int .i64 im) ∧ w'.cell? ⟨bx, 5, none⟩ = some (.int .i64 4) ∧ w'.cell? ⟨bY, 0, none⟩ = some (.int .i64 p) ∧ w'.cell? ⟨bY, 1, none⟩ = some (.int .i64 sd) ∧ w'.cell? ⟨bY, 2, none⟩ = some (.int .i64 ss1) ∧ w'.cell? ⟨bY, 3, none⟩ = some (.int .i64 ss2) ∧ w'.cell? ⟨bY, 4, none⟩ = some (.int .i64 jm) ∧ w'.cell? ⟨bY, 5, none⟩ = some (.int .i64 4) ∧ Row w' bx 23 [.int .i64 o, .int .i64 rd, .int .i64 rs1, .int .i64 rs2, .int .i64 im, .int .i64 4] ∧ Row w' bY 23 [.int .i64 p, .int .i64 sd, .int .i64 ss1, .int .i64 ss2, .int .i64 jm, .int .i64 4] ∧ Tabs w' ∧ w.grownBy w' none
theorem two_of {w w' : World} {bx bY : Nat} {o rd rs1 rs2 im p sd ss1 ss2 jm : Int} (h1 : Row w' bx 23 [.int .i64 o, .int .i64 rd, .int .i64 rs1, .int .i64 rs2, .int .i64 im, .int .i64 4]) (h2 : Row w' bY 23 [.int .i64 p, .int .i64 sd, .int .i64 ss1, .int .i64 ss2, .int .i64 jm, .int .i64 4]) (hT : Tabs w') (hg : w.grownBy w' none) : Two w bx bY o rd rs1 rs2 im p sd ss1 ss2 jm w' :=
  ⟨h1.cell 0, h1.cell 1, h1.cell 2, h1.cell 3, h1.cell 4, h1.cell 5, h2.cell 0, h2.cell 1, h2.cell 2, h2.cell 3, h2.cell 4, h2.cell 5, h1, h2, hT, hg⟩
theorem Two.parts {w w' : World} {bx bY : Nat} {o rd rs1 rs2 im p sd ss1 ss2 jm : Int} (h : Two w bx bY o rd rs1 rs2 im p sd ss1 ss2 jm w') : Row w' bx 23 [.int .i64 o, .int .i64 rd, .int .i64 rs1, .int .i64 rs2, .int .i64 im, .int .i64 4] ∧ Row w' bY 23 [.int .i64 p, .int .i64 sd, .int .i64 ss1, .int .i64 ss2, .int .i64 jm, .int .i64 4] ∧ Tabs w' ∧ w.grownBy w' none := by
  obtain ⟨_, _, _, _, _, _, _, _, _, _, _, _, h1, h2, h3, h4⟩ := h
  exact ⟨h1, h2, h3, h4⟩
theorem Two.on {w w1 w' : World} {bx bY : Nat} {o rd rs1 rs2 im p sd ss1 ss2 jm : Int} (hg : w1.grownBy w' none) (h : Two w bx bY o rd rs1 rs2 im p sd ss1 ss2 jm w1) : Two w bx bY o rd rs1 rs2 im p sd ss1 ss2 jm w' := by
  obtain ⟨h1, h2, h3, h4⟩ := h.parts
  exact two_of (h1.grown hg (by simp)) (h2.grown hg (by simp)) (h3.grown hg) (gr_trans h4 hg)
set_option maxRecDepth 100000 in
theorem text_gr (o rd rs1 rs2 im n : Int) (ho : I64 o) (h1 : I64 rd) (h2 : I64 rs1) (h3 : I64 rs2) (hi : I64 im) (w : World) (hT : Tabs w) :
    Calls Tryz.prog 13 #[E.six o rd rs1 rs2 im n] w fun e w' => e = .returned (.string (txt (textV o rd rs1 rs2 im))) ∧ w.grownBy w' none :=
  (Text_c o rd rs1 rs2 im n ho h1 h2 h3 hi w hT).mono fun _ _ ⟨he, hb⟩ => ⟨he, gr_of_below hb⟩
set_option maxRecDepth 100000 in
theorem texts {o rd rs1 rs2 im p sd ss1 ss2 jm : Int} (hx : D.Can o (rd, rs1, rs2, im)) (hy : D.Can p (sd, ss1, ss2, jm)) (h69 : o ≠ 69) :
    (∀ W, Tabs W → Calls Tryz.prog 13 #[E.six o rd rs1 rs2 im 4] W fun e w' => e = .returned (.string (txt (textV o rd rs1 rs2 im))) ∧ W.grownBy w' none) ∧
    (∀ W, Tabs W → Calls Tryz.prog 13 #[E.six p sd ss1 ss2 jm 4] W fun e w' => e = .returned (.string (txt (textV p sd ss1 ss2 jm))) ∧ W.grownBy w' none) ∧
    (¬ (o = p ∧ rd = sd ∧ rs1 = ss1 ∧ rs2 = ss2 ∧ im = jm) → ((txt (textV o rd rs1 rs2 im)).toList == (txt (textV p sd ss1 ss2 jm)).toList) = false) := by
  obtain ⟨a0, a1, a2, a3, a4⟩ := can_i64 hx
  obtain ⟨b0, b1, b2, b3, b4⟩ := can_i64 hy
  refine ⟨fun W h => text_gr _ _ _ _ _ _ a0 a1 a2 a3 a4 W h, fun W h => text_gr _ _ _ _ _ _ b0 b1 b2 b3 b4 W h, fun hne => ?_⟩
  rw [txt_toList, txt_toList]
  have : textV o rd rs1 rs2 im ≠ textV p sd ss1 ss2 jm := fun e => hne (text_inj hx hy h69 e)
  simpa using this
theorem eql_no {a1 a2 a3 a4 a5 a6 b1 b2 b3 b4 b5 b6 : Int} (h : ¬ (a1 = b1 ∧ a2 = b2 ∧ a3 = b3 ∧ a4 = b4 ∧ a5 = b5)) (w : World) :
    (binOp .eql 23 (.agg #[.int .i64 a1, .int .i64 a2, .int .i64 a3, .int .i64 a4, .int .i64 a5, .int .i64 a6]) (.agg #[.int .i64 b1, .int .i64 b2, .int .i64 b3, .int .i64 b4, .int .i64 b5, .int .i64 b6])).run Tryz.prog w = .ok (.bool false) w := by
  have := eql_run a1 a2 a3 a4 a5 a6 b1 b2 b3 b4 b5 b6 w
  rw [same6_no (fun e => h ⟨e.1, e.2.1, e.2.2.1, e.2.2.2.1, e.2.2.2.2.1⟩)] at this
  exact this
theorem byte_of (l : Bytes) (h : ∀ c ∈ l, (97 ≤ c ∧ c ≤ 122) ∨ c = 46) {sb : ByteArray} (hs : sb = txt l) (j : Nat) (hj : j < sb.size) : (97 ≤ ((sb[j].toNat : Nat) : Int) ∧ ((sb[j].toNat : Nat) : Int) ≤ 122) ∨ ((sb[j].toNat : Nat) : Int) = 46 := by
  subst hs
  have hj' : j < l.length := by rw [← txt_size l]; exact hj
  have hm : (txt l)[j] ∈ l := (show (txt l)[j] = l[j]'hj' from rfl) ▸ List.getElem_mem hj'
  rcases h _ hm with ⟨h1, h2⟩ | h1
  · left
    have a1 := UInt8.le_iff_toNat_le.1 h1
    have a2 := UInt8.le_iff_toNat_le.1 h2
    rw [show (97 : UInt8).toNat = 97 from rfl] at a1
    rw [show (122 : UInt8).toNat = 122 from rfl] at a2
    constructor <;> omega
  · right
    have a1 := congrArg UInt8.toNat h1
    rw [show (46 : UInt8).toNat = 46 from rfl] at a1
    omega
set_option maxRecDepth 100000 in
set_option maxHeartbeats 4000000 in
theorem way_in (x y : Nat) (hx : x < 4294967296) (hy : y < 4294967296) (m : Nat) (hm : m ≤ 97) (o rd rs1 rs2 im : Int) (hV : D.wordV x = (o, rd, rs1, rs2, im)) (p sd ss1 ss2 jm : Int) (hU : D.wordV y = (p, sd, ss1, ss2, jm)) (w : World) (hL : Tabs w) :
    Calls Tryz.prog 6 #[.int .u32 x, .int .u32 y, .int .i64 m] w fun e w' => e = .returned (.bool true) ∧ Below w.heap.size w w' := by
  have HX := Lib.hid (fun W => rWord_at hx hV W)
  have HY := Lib.hid (fun W => rWord_at hy hU W)
  have HN := Lib.hid (fun (k : Nat) (hk : k ≤ 97) W (h : Nam W) => Name_c k ⟨by omega, by omega⟩ W h)
  have hs1 : ((txt (nameV m)).toList == []) = false := by
    rw [txt_toList]
    have := (name_some (m : Int)).2 ⟨by omega, by omega⟩
    simpa using this
  have HD := Lib.hid (fun (k : Nat) (hk : k ≤ 97) (hne : k ≠ m) => (show ((txt (nameV k)).toList == (txt (nameV m)).toList) = false from by
    rw [txt_toList, txt_toList]
    have : nameV k ≠ nameV m := fun e => hne (by have := name_inj (a := k) (b := m) ⟨by omega, by omega⟩ ⟨by omega, by omega⟩ e; omega)
    simpa using this))
  have HB := Lib.hid (name_byte m)
  have HS := Lib.hid (txt_size (nameV m))
  obtain ⟨sb, hsb⟩ : ∃ s, s = txt (nameV m) := ⟨_, rfl⟩
  rw [← hsb] at hs1
  have HSB := Lib.hid hsb
  have HNm := Lib.hid (fun W (h : Nam W) => Name_c (m : Int) ⟨by omega, by omega⟩ W h)
  rw [← hsb] at HNm HD
  have hCx := word_can x
  have hCy := word_can y
  rw [hV] at hCx
  rw [hU] at hCy
  have HT := Lib.hid (texts hCx hCy)
  clear hCx hCy
  have hmi : (m : Int) ≤ 97 := by omega
  have hdm : decide ((m : Int) ≤ 97) = true := by simp; omega
  clear hV hU hsb
  go_enter Tryz.func6, Tryz.ntmps6
  go_wp2_with fail
  refine (shown06_c _ hL).mono ?_
  rintro e w1 ⟨rfl, hG1⟩
  go_wp2_with fail
  refine (HNm.out _ (hL.2.1.grown hG1)).mono ?_
  rintro e w' ⟨rfl, rfl⟩
  have HL1 := Lib.hid (hL.grown hG1)
  have HLw := Lib.hid hL
  have HG1 := Lib.hid hG1
  clear hL hG1
  go_wp2_with fail
  go_loop [10] (fun i => ∃ k : Nat, k ≤ 98 ∧ i = .int .i64 k) (fun i => 98 - (intOf i).toNat)
  case atStart => exact ⟨0, by omega, rfl⟩
  case round =>
    obtain ⟨k, hk, rfl⟩ := hrel
    by_cases hlt : k ≤ 97
    · by_cases hkm : k = m
      · subst hkm
        have q1 : ((k : Int) != (k : Int)) = false := by simp
        go_wp2_with fail
        go_round
        case rel => exact ⟨k + 1, by omega, by go_num⟩
        case measure => simp [intOf]; omega
      · have q1 : ((k : Int) != (m : Int)) = true := by simp; omega
        have q2 := HD.out k hlt hkm
        go_wp2_with fail
        refine (HN.out k hlt _ HL1.out.2.1).mono ?_
        rintro e w' ⟨rfl, rfl⟩
        generalize txt (nameV (k : Int)) = t at *
        go_wp2_with fail
        go_round
        case rel => exact ⟨k + 1, by omega, by go_num⟩
        case measure => simp [intOf]; omega
    · obtain rfl : k = 98 := by omega
      go_wp2_with fail
      have hsz : sb.size ≤ 100 := by rw [HSB.out, HS.out]; have := name_len (m : Int); omega
      go_loop [11] (fun i => ∃ j : Nat, j ≤ sb.size ∧ i = .int .i64 j) (fun i => sb.size - (intOf i).toNat)
      case atStart => exact ⟨0, by omega, rfl⟩
      case round =>
        obtain ⟨j, hj, rfl⟩ := hrel
        by_cases hlt : j < sb.size
        · have hji : (j : Int) < (sb.size : Int) := by omega
          rcases byte_of _ HB.out HSB.out j hlt with ⟨b1, b2⟩ | b3
          · have e1 : decide (((sb[j].toNat : Nat) : Int) < 97) = false := by simp only [decide_eq_false_iff_not]; omega
            have e2 : decide (122 < ((sb[j].toNat : Nat) : Int)) = false := by simp only [decide_eq_false_iff_not]; omega
            go_wp2_with fail
            all_goals first | exact ⟨⟨j + 1, by omega, by go_num⟩, by simp [intOf]; omega⟩ | (exfalso; omega)
          · go_wp2_with fail
            all_goals first | exact ⟨⟨j + 1, by omega, by go_num⟩, by simp [intOf]; omega⟩ | (exfalso; omega)
        · obtain rfl : j = sb.size := by omega
          go_wp2_with fail
          refine (HX.out _).mono ?_
          rintro e w2 ⟨rfl, hG2⟩
          go_wp2_with fail
          refine (HY.out _).mono ?_
          rintro e w3 ⟨rfl, hG3⟩
          have R1 := (Row.fresh w2 23 [.int .i64 o, .int .i64 rd, .int .i64 rs1, .int .i64 rs2, .int .i64 im, .int .i64 4]).grown hG3 (by simp)
          have hGa : w.grownBy w3 none := gr_trans (gr_alloc (gr_trans HG1.out hG2) (.cells #[.int .i64 o, .int .i64 rd, .int .i64 rs1, .int .i64 rs2, .int .i64 im, .int .i64 4] 23)) hG3
          have hGb := gr_alloc hGa (.cells #[.int .i64 p, .int .i64 sd, .int .i64 ss1, .int .i64 ss2, .int .i64 jm, .int .i64 4] 23)
          have hS : Two w w2.heap.size w3.heap.size o rd rs1 rs2 im p sd ss1 ss2 jm (w3.alloc (.cells #[.int .i64 p, .int .i64 sd, .int .i64 ss1, .int .i64 ss2, .int .i64 jm, .int .i64 4] 23)) :=
            two_of (R1.alloc _) (Row.fresh w3 _ _) (HLw.out.grown hGb) hGb
          have c0 := hS.1
          have d0 := hS.2.2.2.2.2.2.1
          have HS2 := Lib.hid hS
          clear hG2 hG3 R1 hGa hGb hS
          by_cases h69 : o = 69
          · subst h69
            go_wp2_with fail
            go_ret
            exact ⟨rfl, gr_below HS2.out.parts.2.2.2⟩
          by_cases p69 : p = 69
          · subst p69
            have q1 : (o == 69) = false := by simpa using h69
            go_wp2_with fail
            go_ret
            exact ⟨rfl, gr_below HS2.out.parts.2.2.2⟩
          have q1 : (o == 69) = false := by simpa using h69
          have q2 : (p == 69) = false := by simpa using p69
          obtain ⟨HTx, HTy, hsame⟩ := HT.out h69
          by_cases hE : o = p ∧ rd = sd ∧ rs1 = ss1 ∧ rs2 = ss2 ∧ im = jm
          · obtain ⟨rfl, rfl, rfl, rfl, rfl⟩ := hE
            have H1 := Lib.hid HTx
            clear HTx HTy hsame HT
            generalize txt (textV o rd rs1 rs2 im) = t1 at *
            go_wp2_with fail
            have hS0 := HS2.out
            clear c0 d0 HS2
            generalize w3.alloc (.cells #[.int .i64 o, .int .i64 rd, .int .i64 rs1, .int .i64 rs2, .int .i64 im, .int .i64 4] 23) = W at *
            generalize w3.heap.size = bY at *
            generalize w2.heap.size = bx at *
            unfold Two at hS0
            refine wp_region_held_drew (S := fun w' => w'.cell? ⟨bx, 0, none⟩ = some (.int .i64 o) ∧ w'.cell? ⟨bx, 1, none⟩ = some (.int .i64 rd) ∧ w'.cell? ⟨bx, 2, none⟩ = some (.int .i64 rs1) ∧ w'.cell? ⟨bx, 3, none⟩ = some (.int .i64 rs2) ∧ w'.cell? ⟨bx, 4, none⟩ = some (.int .i64 im) ∧ w'.cell? ⟨bx, 5, none⟩ = some (.int .i64 4) ∧ w'.cell? ⟨bY, 0, none⟩ = some (.int .i64 o) ∧ w'.cell? ⟨bY, 1, none⟩ = some (.int .i64 rd) ∧ w'.cell? ⟨bY, 2, none⟩ = some (.int .i64 rs1) ∧ w'.cell? ⟨bY, 3, none⟩ = some (.int .i64 rs2) ∧ w'.cell? ⟨bY, 4, none⟩ = some (.int .i64 im) ∧ w'.cell? ⟨bY, 5, none⟩ = some (.int .i64 4) ∧ Row w' bx 23 [.int .i64 o, .int .i64 rd, .int .i64 rs1, .int .i64 rs2, .int .i64 im, .int .i64 4] ∧ Row w' bY 23 [.int .i64 o, .int .i64 rd, .int .i64 rs1, .int .i64 rs2, .int .i64 im, .int .i64 4] ∧ Tabs w' ∧ w.grownBy w' none) (by kernel_rfl) ?_ (fun hHeld => ?_)
            · exact Two.on (gr_drew (gr_refl _ none)) hS0
            refine wpAnyH_take (i := 0) (oi := { dst := some 79, op := Op.move (Operand.tmp 7), type := 4, pos := "law.go:89", after := #[], guard := none }) (v := ?_) rfl (by kernel_rfl) (by kernel_rfl) (by kernel_rfl) (fun _ _ _ h => h) (Or.inl ⟨by rfl, ?_⟩) (by assumption) ?_
            rotate_left
            · (intro w hSw; (try dsimp only at hSw); go_simp; try with_reducible rfl)
            try simp only [Act.put, List.setIfInBounds_toArray, List.set_cons_zero, List.set_cons_succ]
            refine wpAnyH_take (i := 1) (oi := { dst := some 80, op := Op.move (Operand.tmp 79), type := 4, pos := "law.go:89", after := #[{ on := 0, ground := Ground.data }], guard := none }) (v := ?_) rfl (by kernel_rfl) (by kernel_rfl) (by kernel_rfl) (fun _ _ _ h => h) (Or.inl ⟨by rfl, ?_⟩) (by assumption) ?_
            rotate_left
            · (intro w hSw; (try dsimp only at hSw); go_simp; try with_reducible rfl)
            try simp only [Act.put, List.setIfInBounds_toArray, List.set_cons_zero, List.set_cons_succ]
            refine wpAnyH_take (i := 2) (oi := { dst := some 81, op := Op.load 23 (Operand.tmp 12), type := 23, pos := "law.go:89", after := #[{ on := 1, ground := Ground.guard }], guard := some (1, true) }) (v := ?_) rfl (by kernel_rfl) (by kernel_rfl) (by kernel_rfl) (fun _ _ _ h => h) (Or.inl ⟨by rfl, ?_⟩) (by assumption) ?_
            rotate_left
            · (intro w hSw; (try dsimp only at hSw); go_simp; try with_reducible rfl)
            try simp only [Act.put, List.setIfInBounds_toArray, List.set_cons_zero, List.set_cons_succ]
            refine wpAnyH_take (i := 4) (oi := { dst := some 83, op := Op.load 23 (Operand.tmp 13), type := 23, pos := "law.go:89", after := #[{ on := 1, ground := Ground.guard }], guard := some (1, true) }) (v := ?_) rfl (by kernel_rfl) (by kernel_rfl) (by kernel_rfl) (fun _ _ _ h => h) (Or.inl ⟨by rfl, ?_⟩) (by assumption) ?_
            rotate_left
            · (intro w hSw; (try dsimp only at hSw); go_simp; try with_reducible rfl)
            try simp only [Act.put, List.setIfInBounds_toArray, List.set_cons_zero, List.set_cons_succ]
            refine wpAnyH_take (i := 7) (oi := { dst := some 86, op := Op.load 23 (Operand.tmp 12), type := 23, pos := "law.go:89", after := #[{ on := 1, ground := Ground.guard }], guard := some (1, true) }) (v := ?_) rfl (by kernel_rfl) (by kernel_rfl) (by kernel_rfl) (fun _ _ _ h => h) (Or.inl ⟨by rfl, ?_⟩) (by assumption) ?_
            rotate_left
            · (intro w hSw; (try dsimp only at hSw); go_simp; try with_reducible rfl)
            try simp only [Act.put, List.setIfInBounds_toArray, List.set_cons_zero, List.set_cons_succ]
            refine wpAnyH_take (i := 8) (oi := { dst := some 87, op := Op.load 23 (Operand.tmp 13), type := 23, pos := "law.go:89", after := #[{ on := 1, ground := Ground.guard }], guard := some (1, true) }) (v := ?_) rfl (by kernel_rfl) (by kernel_rfl) (by kernel_rfl) (fun _ _ _ h => h) (Or.inl ⟨by rfl, ?_⟩) (by assumption) ?_
            rotate_left
            · (intro w hSw; (try dsimp only at hSw); go_simp; try with_reducible rfl)
            try simp only [Act.put, List.setIfInBounds_toArray, List.set_cons_zero, List.set_cons_succ]
            refine wpAnyH_take (i := 9) (oi := { dst := some 88, op := Op.binOp BinOp.eql 23 (Operand.tmp 86) (Operand.tmp 87) 23, type := 4, pos := "law.go:89", after := #[{ on := 7, ground := Ground.data }, { on := 8, ground := Ground.data }, { on := 1, ground := Ground.guard }], guard := some (1, true) }) (v := .bool true) rfl (by kernel_rfl) (by kernel_rfl) (by kernel_rfl) (fun _ _ _ h => h) (Or.inl ⟨by rfl, ?_⟩) (by assumption) ?_
            · (intro w hSw; (try dsimp only at hSw); go_simp <;> omega)
            try simp only [Act.put, List.setIfInBounds_toArray, List.set_cons_zero, List.set_cons_succ]
            refine wpAnyH_ready (rs := [3]) (by kernel_rfl) (by simp) ?_
            refine AllReadyH.cons (o := { dst := some 82, op := Op.call { callee := Callee.value (Operand.func 13), args := #[Operand.tmp 81], argTypes := #[23] }, type := 9, pos := "law.go:89", after := #[{ on := 2, ground := Ground.data }, { on := 1, ground := Ground.chain }, { on := 1, ground := Ground.guard }], guard := some (1, true) }) rfl (fun K hK => ?_) AllReadyH.nil
            go_simp
            go_at_call 13
            refine (H1.out _ (Two.parts hHeld).2.2.1).mono ?_
            rintro e wS3 ⟨rfl, hg⟩
            go_wp2_with fail
            refine hK.out _ _ ?_ (fun hHeld => ?_)
            · exact Two.on hg hHeld
            clear hK K
            try simp only [Act.put, List.setIfInBounds_toArray, List.set_cons_zero, List.set_cons_succ]
            refine wpAnyH_ready (rs := [5]) (by kernel_rfl) (by simp) ?_
            refine AllReadyH.cons (o := { dst := some 84, op := Op.call { callee := Callee.value (Operand.func 13), args := #[Operand.tmp 83], argTypes := #[23] }, type := 9, pos := "law.go:89", after := #[{ on := 4, ground := Ground.data }, { on := 3, ground := Ground.chain }, { on := 1, ground := Ground.guard }], guard := some (1, true) }) rfl (fun K hK => ?_) AllReadyH.nil
            go_simp
            go_at_call 13
            refine (H1.out _ (Two.parts hHeld).2.2.1).mono ?_
            rintro e wS5 ⟨rfl, hg⟩
            go_wp2_with fail
            refine hK.out _ _ ?_ (fun hHeld => ?_)
            · exact Two.on hg hHeld
            clear hK K
            try simp only [Act.put, List.setIfInBounds_toArray, List.set_cons_zero, List.set_cons_succ]
            refine wpAnyH_take (i := 6) (oi := { dst := some 85, op := Op.binOp BinOp.eql 9 (Operand.tmp 82) (Operand.tmp 84) 9, type := 4, pos := "law.go:89", after := #[{ on := 3, ground := Ground.data }, { on := 5, ground := Ground.data }, { on := 1, ground := Ground.guard }], guard := some (1, true) }) (v := .bool true) rfl (by kernel_rfl) (by kernel_rfl) (by kernel_rfl) (fun _ _ _ h => h) (Or.inl ⟨by rfl, ?_⟩) (by assumption) ?_
            · (intro w hSw; (try dsimp only at hSw); go_simp <;> omega)
            try simp only [Act.put, List.setIfInBounds_toArray, List.set_cons_zero, List.set_cons_succ]
            refine wpAnyH_take (i := 10) (oi := { dst := some 89, op := Op.binOp BinOp.eql 4 (Operand.tmp 85) (Operand.tmp 88) 4, type := 4, pos := "law.go:89", after := #[{ on := 6, ground := Ground.data }, { on := 9, ground := Ground.data }, { on := 1, ground := Ground.guard }], guard := some (1, true) }) (v := .bool true) rfl (by kernel_rfl) (by kernel_rfl) (by kernel_rfl) (fun _ _ _ h => h) (Or.inl ⟨by rfl, ?_⟩) (by assumption) ?_
            · (intro w hSw; (try dsimp only at hSw); go_simp <;> omega)
            try simp only [Act.put, List.setIfInBounds_toArray, List.set_cons_zero, List.set_cons_succ]
            refine wpAnyH_take (i := 11) (oi := { dst := some 90, op := Op.pick (Operand.tmp 80) (Operand.tmp 89) (Operand.const (Value.bool false)), type := 4, pos := "law.go:89", after := #[{ on := 1, ground := Ground.data }, { on := 10, ground := Ground.data }], guard := none }) (v := ?_) rfl (by kernel_rfl) (by kernel_rfl) (by kernel_rfl) (fun _ _ _ h => h) (Or.inl ⟨by rfl, ?_⟩) (by assumption) ?_
            rotate_left
            · (intro w hSw; (try dsimp only at hSw); go_simp; try with_reducible rfl)
            try simp only [Act.put, List.setIfInBounds_toArray, List.set_cons_zero, List.set_cons_succ]
            refine wpAnyH_take (i := 12) (oi := { dst := some 6, op := Op.assign (Operand.tmp 90), type := 4, pos := "law.go:89", after := #[{ on := 11, ground := Ground.data }, { on := 5, ground := Ground.chain }, { on := 0, ground := Ground.phase }, { on := 1, ground := Ground.phase }, { on := 2, ground := Ground.phase }, { on := 3, ground := Ground.phase }, { on := 4, ground := Ground.phase }, { on := 5, ground := Ground.phase }, { on := 6, ground := Ground.phase }, { on := 7, ground := Ground.phase }, { on := 8, ground := Ground.phase }, { on := 9, ground := Ground.phase }, { on := 10, ground := Ground.phase }, { on := 11, ground := Ground.phase }], guard := none }) (v := ?_) rfl (by kernel_rfl) (by kernel_rfl) (by kernel_rfl) (fun _ _ _ h => h) (Or.inl ⟨by rfl, ?_⟩) (by assumption) ?_
            rotate_left
            · (intro w hSw; (try dsimp only at hSw); go_simp; try with_reducible rfl)
            try simp only [Act.put, List.setIfInBounds_toArray, List.set_cons_zero, List.set_cons_succ]
            refine wpAnyH_done (by kernel_rfl) ?_ _
            have hBe := gr_below (Two.parts hHeld).2.2.2
            clear hHeld
            go_wp2_with fail
            go_ret
            exact ⟨rfl, hBe⟩
          · have hq := fun W => eql_no (a6 := 4) (b6 := 4) hE W
            have ht := hsame hE
            have H1 := Lib.hid HTx
            have H2 := Lib.hid HTy
            clear HTx HTy hsame hE HT
            generalize txt (textV o rd rs1 rs2 im) = t1 at *
            generalize txt (textV p sd ss1 ss2 jm) = t2 at *
            go_wp2_with fail
            have hS0 := HS2.out
            clear c0 d0 HS2
            generalize w3.alloc (.cells #[.int .i64 p, .int .i64 sd, .int .i64 ss1, .int .i64 ss2, .int .i64 jm, .int .i64 4] 23) = W at *
            generalize w3.heap.size = bY at *
            generalize w2.heap.size = bx at *
            unfold Two at hS0
            refine wp_region_held_drew (S := fun w' => w'.cell? ⟨bx, 0, none⟩ = some (.int .i64 o) ∧ w'.cell? ⟨bx, 1, none⟩ = some (.int .i64 rd) ∧ w'.cell? ⟨bx, 2, none⟩ = some (.int .i64 rs1) ∧ w'.cell? ⟨bx, 3, none⟩ = some (.int .i64 rs2) ∧ w'.cell? ⟨bx, 4, none⟩ = some (.int .i64 im) ∧ w'.cell? ⟨bx, 5, none⟩ = some (.int .i64 4) ∧ w'.cell? ⟨bY, 0, none⟩ = some (.int .i64 p) ∧ w'.cell? ⟨bY, 1, none⟩ = some (.int .i64 sd) ∧ w'.cell? ⟨bY, 2, none⟩ = some (.int .i64 ss1) ∧ w'.cell? ⟨bY, 3, none⟩ = some (.int .i64 ss2) ∧ w'.cell? ⟨bY, 4, none⟩ = some (.int .i64 jm) ∧ w'.cell? ⟨bY, 5, none⟩ = some (.int .i64 4) ∧ Row w' bx 23 [.int .i64 o, .int .i64 rd, .int .i64 rs1, .int .i64 rs2, .int .i64 im, .int .i64 4] ∧ Row w' bY 23 [.int .i64 p, .int .i64 sd, .int .i64 ss1, .int .i64 ss2, .int .i64 jm, .int .i64 4] ∧ Tabs w' ∧ w.grownBy w' none) (by kernel_rfl) ?_ (fun hHeld => ?_)
            · exact Two.on (gr_drew (gr_refl _ none)) hS0
            refine wpAnyH_take (i := 0) (oi := { dst := some 79, op := Op.move (Operand.tmp 7), type := 4, pos := "law.go:89", after := #[], guard := none }) (v := ?_) rfl (by kernel_rfl) (by kernel_rfl) (by kernel_rfl) (fun _ _ _ h => h) (Or.inl ⟨by rfl, ?_⟩) (by assumption) ?_
            rotate_left
            · (intro w hSw; (try dsimp only at hSw); go_simp; try with_reducible rfl)
            try simp only [Act.put, List.setIfInBounds_toArray, List.set_cons_zero, List.set_cons_succ]
            refine wpAnyH_take (i := 1) (oi := { dst := some 80, op := Op.move (Operand.tmp 79), type := 4, pos := "law.go:89", after := #[{ on := 0, ground := Ground.data }], guard := none }) (v := ?_) rfl (by kernel_rfl) (by kernel_rfl) (by kernel_rfl) (fun _ _ _ h => h) (Or.inl ⟨by rfl, ?_⟩) (by assumption) ?_
            rotate_left
            · (intro w hSw; (try dsimp only at hSw); go_simp; try with_reducible rfl)
            try simp only [Act.put, List.setIfInBounds_toArray, List.set_cons_zero, List.set_cons_succ]
            refine wpAnyH_take (i := 2) (oi := { dst := some 81, op := Op.load 23 (Operand.tmp 12), type := 23, pos := "law.go:89", after := #[{ on := 1, ground := Ground.guard }], guard := some (1, true) }) (v := ?_) rfl (by kernel_rfl) (by kernel_rfl) (by kernel_rfl) (fun _ _ _ h => h) (Or.inl ⟨by rfl, ?_⟩) (by assumption) ?_
            rotate_left
            · (intro w hSw; (try dsimp only at hSw); go_simp; try with_reducible rfl)
            try simp only [Act.put, List.setIfInBounds_toArray, List.set_cons_zero, List.set_cons_succ]
            refine wpAnyH_take (i := 4) (oi := { dst := some 83, op := Op.load 23 (Operand.tmp 13), type := 23, pos := "law.go:89", after := #[{ on := 1, ground := Ground.guard }], guard := some (1, true) }) (v := ?_) rfl (by kernel_rfl) (by kernel_rfl) (by kernel_rfl) (fun _ _ _ h => h) (Or.inl ⟨by rfl, ?_⟩) (by assumption) ?_
            rotate_left
            · (intro w hSw; (try dsimp only at hSw); go_simp; try with_reducible rfl)
            try simp only [Act.put, List.setIfInBounds_toArray, List.set_cons_zero, List.set_cons_succ]
            refine wpAnyH_take (i := 7) (oi := { dst := some 86, op := Op.load 23 (Operand.tmp 12), type := 23, pos := "law.go:89", after := #[{ on := 1, ground := Ground.guard }], guard := some (1, true) }) (v := ?_) rfl (by kernel_rfl) (by kernel_rfl) (by kernel_rfl) (fun _ _ _ h => h) (Or.inl ⟨by rfl, ?_⟩) (by assumption) ?_
            rotate_left
            · (intro w hSw; (try dsimp only at hSw); go_simp; try with_reducible rfl)
            try simp only [Act.put, List.setIfInBounds_toArray, List.set_cons_zero, List.set_cons_succ]
            refine wpAnyH_take (i := 8) (oi := { dst := some 87, op := Op.load 23 (Operand.tmp 13), type := 23, pos := "law.go:89", after := #[{ on := 1, ground := Ground.guard }], guard := some (1, true) }) (v := ?_) rfl (by kernel_rfl) (by kernel_rfl) (by kernel_rfl) (fun _ _ _ h => h) (Or.inl ⟨by rfl, ?_⟩) (by assumption) ?_
            rotate_left
            · (intro w hSw; (try dsimp only at hSw); go_simp; try with_reducible rfl)
            try simp only [Act.put, List.setIfInBounds_toArray, List.set_cons_zero, List.set_cons_succ]
            refine wpAnyH_take (i := 9) (oi := { dst := some 88, op := Op.binOp BinOp.eql 23 (Operand.tmp 86) (Operand.tmp 87) 23, type := 4, pos := "law.go:89", after := #[{ on := 7, ground := Ground.data }, { on := 8, ground := Ground.data }, { on := 1, ground := Ground.guard }], guard := some (1, true) }) (v := .bool false) rfl (by kernel_rfl) (by kernel_rfl) (by kernel_rfl) (fun _ _ _ h => h) (Or.inl ⟨by rfl, ?_⟩) (by assumption) ?_
            · (intro w hSw; (try dsimp only at hSw); go_simp <;> omega)
            try simp only [Act.put, List.setIfInBounds_toArray, List.set_cons_zero, List.set_cons_succ]
            refine wpAnyH_ready (rs := [3]) (by kernel_rfl) (by simp) ?_
            refine AllReadyH.cons (o := { dst := some 82, op := Op.call { callee := Callee.value (Operand.func 13), args := #[Operand.tmp 81], argTypes := #[23] }, type := 9, pos := "law.go:89", after := #[{ on := 2, ground := Ground.data }, { on := 1, ground := Ground.chain }, { on := 1, ground := Ground.guard }], guard := some (1, true) }) rfl (fun K hK => ?_) AllReadyH.nil
            go_simp
            go_at_call 13
            refine (H1.out _ (Two.parts hHeld).2.2.1).mono ?_
            rintro e wS3 ⟨rfl, hg⟩
            go_wp2_with fail
            refine hK.out _ _ ?_ (fun hHeld => ?_)
            · exact Two.on hg hHeld
            clear hK K
            try simp only [Act.put, List.setIfInBounds_toArray, List.set_cons_zero, List.set_cons_succ]
            refine wpAnyH_ready (rs := [5]) (by kernel_rfl) (by simp) ?_
            refine AllReadyH.cons (o := { dst := some 84, op := Op.call { callee := Callee.value (Operand.func 13), args := #[Operand.tmp 83], argTypes := #[23] }, type := 9, pos := "law.go:89", after := #[{ on := 4, ground := Ground.data }, { on := 3, ground := Ground.chain }, { on := 1, ground := Ground.guard }], guard := some (1, true) }) rfl (fun K hK => ?_) AllReadyH.nil
            go_simp
            go_at_call 13
            refine (H2.out _ (Two.parts hHeld).2.2.1).mono ?_
            rintro e wS5 ⟨rfl, hg⟩
            go_wp2_with fail
            refine hK.out _ _ ?_ (fun hHeld => ?_)
            · exact Two.on hg hHeld
            clear hK K
            try simp only [Act.put, List.setIfInBounds_toArray, List.set_cons_zero, List.set_cons_succ]
            refine wpAnyH_take (i := 6) (oi := { dst := some 85, op := Op.binOp BinOp.eql 9 (Operand.tmp 82) (Operand.tmp 84) 9, type := 4, pos := "law.go:89", after := #[{ on := 3, ground := Ground.data }, { on := 5, ground := Ground.data }, { on := 1, ground := Ground.guard }], guard := some (1, true) }) (v := .bool false) rfl (by kernel_rfl) (by kernel_rfl) (by kernel_rfl) (fun _ _ _ h => h) (Or.inl ⟨by rfl, ?_⟩) (by assumption) ?_
            · (intro w hSw; (try dsimp only at hSw); go_simp <;> omega)
            try simp only [Act.put, List.setIfInBounds_toArray, List.set_cons_zero, List.set_cons_succ]
            refine wpAnyH_take (i := 10) (oi := { dst := some 89, op := Op.binOp BinOp.eql 4 (Operand.tmp 85) (Operand.tmp 88) 4, type := 4, pos := "law.go:89", after := #[{ on := 6, ground := Ground.data }, { on := 9, ground := Ground.data }, { on := 1, ground := Ground.guard }], guard := some (1, true) }) (v := .bool true) rfl (by kernel_rfl) (by kernel_rfl) (by kernel_rfl) (fun _ _ _ h => h) (Or.inl ⟨by rfl, ?_⟩) (by assumption) ?_
            · (intro w hSw; (try dsimp only at hSw); go_simp <;> omega)
            try simp only [Act.put, List.setIfInBounds_toArray, List.set_cons_zero, List.set_cons_succ]
            refine wpAnyH_take (i := 11) (oi := { dst := some 90, op := Op.pick (Operand.tmp 80) (Operand.tmp 89) (Operand.const (Value.bool false)), type := 4, pos := "law.go:89", after := #[{ on := 1, ground := Ground.data }, { on := 10, ground := Ground.data }], guard := none }) (v := ?_) rfl (by kernel_rfl) (by kernel_rfl) (by kernel_rfl) (fun _ _ _ h => h) (Or.inl ⟨by rfl, ?_⟩) (by assumption) ?_
            rotate_left
            · (intro w hSw; (try dsimp only at hSw); go_simp; try with_reducible rfl)
            try simp only [Act.put, List.setIfInBounds_toArray, List.set_cons_zero, List.set_cons_succ]
            refine wpAnyH_take (i := 12) (oi := { dst := some 6, op := Op.assign (Operand.tmp 90), type := 4, pos := "law.go:89", after := #[{ on := 11, ground := Ground.data }, { on := 5, ground := Ground.chain }, { on := 0, ground := Ground.phase }, { on := 1, ground := Ground.phase }, { on := 2, ground := Ground.phase }, { on := 3, ground := Ground.phase }, { on := 4, ground := Ground.phase }, { on := 5, ground := Ground.phase }, { on := 6, ground := Ground.phase }, { on := 7, ground := Ground.phase }, { on := 8, ground := Ground.phase }, { on := 9, ground := Ground.phase }, { on := 10, ground := Ground.phase }, { on := 11, ground := Ground.phase }], guard := none }) (v := ?_) rfl (by kernel_rfl) (by kernel_rfl) (by kernel_rfl) (fun _ _ _ h => h) (Or.inl ⟨by rfl, ?_⟩) (by assumption) ?_
            rotate_left
            · (intro w hSw; (try dsimp only at hSw); go_simp; try with_reducible rfl)
            try simp only [Act.put, List.setIfInBounds_toArray, List.set_cons_zero, List.set_cons_succ]
            refine wpAnyH_done (by kernel_rfl) ?_ _
            have hBe := gr_below (Two.parts hHeld).2.2.2
            clear hHeld
            go_wp2_with fail
            go_ret
            exact ⟨rfl, hBe⟩
set_option maxRecDepth 100000 in
set_option maxHeartbeats 4000000 in
theorem way_neg (x y : Nat) (hx : x < 4294967296) (hy : y < 4294967296) (m : Int) (hi : I64 m) (hm : m < 0) (o rd rs1 rs2 im : Int) (hV : D.wordV x = (o, rd, rs1, rs2, im)) (p sd ss1 ss2 jm : Int) (hU : D.wordV y = (p, sd, ss1, ss2, jm)) (w : World) (hL : Tabs w) :
    Calls Tryz.prog 6 #[.int .u32 x, .int .u32 y, .int .i64 m] w fun e w' => e = .returned (.bool true) ∧ Below w.heap.size w w' := by
  have HX := Lib.hid (fun W => rWord_at hx hV W)
  have HY := Lib.hid (fun W => rWord_at hy hU W)
  have hnm : nameV m = [] := by rw [nameV, if_pos (by omega)]
  obtain ⟨sb, hsb⟩ : ∃ s, s = txt (nameV m) := ⟨_, rfl⟩
  have hs1 : (sb.toList == []) = true := by rw [hsb, hnm, txt_toList]; rfl
  have hs0 : sb.size = 0 := by rw [hsb, hnm, txt_size]; rfl
  have HNm := Lib.hid (fun W (h : Nam W) => Name_c m hi W h)
  rw [← hsb] at HNm
  have hCx := word_can x
  have hCy := word_can y
  rw [hV] at hCx
  rw [hU] at hCy
  have HT := Lib.hid (texts hCx hCy)
  clear hCx hCy
  have hdm : decide ((0 : Int) ≤ m) = false := by simp; omega
  clear hV hU hsb hnm
  go_enter Tryz.func6, Tryz.ntmps6
  go_wp2_with fail
  refine (shown06_c _ hL).mono ?_
  rintro e w1 ⟨rfl, hG1⟩
  go_wp2_with fail
  refine (HNm.out _ (hL.2.1.grown hG1)).mono ?_
  rintro e w' ⟨rfl, rfl⟩
  have HL1 := Lib.hid (hL.grown hG1)
  have HLw := Lib.hid hL
  have HG1 := Lib.hid hG1
  clear hL hG1
  go_wp2_with fail
  go_loop [10] (fun i => ∃ k : Nat, k ≤ 98 ∧ i = .int .i64 k) (fun i => 98 - (intOf i).toNat)
  case atStart => exact ⟨0, by omega, rfl⟩
  case round =>
    obtain ⟨k, hk, rfl⟩ := hrel
    by_cases hlt : k ≤ 97
    · have q1 : ((k : Int) != m) = true := by simp; omega
      go_wp2_with fail
      all_goals exact ⟨⟨k + 1, by omega, by go_num⟩, by simp [intOf]; omega⟩
    · obtain rfl : k = 98 := by omega
      go_wp2_with fail
      go_loop [11] (fun i => i = .int .i64 0) (fun i => 0)
      case atStart => rfl
      case round =>
        obtain rfl := hrel
        · have hz : ((sb.size : Nat) : Int) = 0 := by omega
          go_wp2_with fail
          refine (HX.out _).mono ?_
          rintro e w2 ⟨rfl, hG2⟩
          go_wp2_with fail
          refine (HY.out _).mono ?_
          rintro e w3 ⟨rfl, hG3⟩
          have R1 := (Row.fresh w2 23 [.int .i64 o, .int .i64 rd, .int .i64 rs1, .int .i64 rs2, .int .i64 im, .int .i64 4]).grown hG3 (by simp)
          have hGa : w.grownBy w3 none := gr_trans (gr_alloc (gr_trans HG1.out hG2) (.cells #[.int .i64 o, .int .i64 rd, .int .i64 rs1, .int .i64 rs2, .int .i64 im, .int .i64 4] 23)) hG3
          have hGb := gr_alloc hGa (.cells #[.int .i64 p, .int .i64 sd, .int .i64 ss1, .int .i64 ss2, .int .i64 jm, .int .i64 4] 23)
          have hS : Two w w2.heap.size w3.heap.size o rd rs1 rs2 im p sd ss1 ss2 jm (w3.alloc (.cells #[.int .i64 p, .int .i64 sd, .int .i64 ss1, .int .i64 ss2, .int .i64 jm, .int .i64 4] 23)) :=
            two_of (R1.alloc _) (Row.fresh w3 _ _) (HLw.out.grown hGb) hGb
          have c0 := hS.1
          have d0 := hS.2.2.2.2.2.2.1
          have HS2 := Lib.hid hS
          clear hG2 hG3 R1 hGa hGb hS
          by_cases h69 : o = 69
          · subst h69
            go_wp2_with fail
            go_ret
            exact ⟨rfl, gr_below HS2.out.parts.2.2.2⟩
          by_cases p69 : p = 69
          · subst p69
            have q1 : (o == 69) = false := by simpa using h69
            go_wp2_with fail
            go_ret
            exact ⟨rfl, gr_below HS2.out.parts.2.2.2⟩
          have q1 : (o == 69) = false := by simpa using h69
          have q2 : (p == 69) = false := by simpa using p69
          obtain ⟨HTx, HTy, hsame⟩ := HT.out h69
          by_cases hE : o = p ∧ rd = sd ∧ rs1 = ss1 ∧ rs2 = ss2 ∧ im = jm
          · obtain ⟨rfl, rfl, rfl, rfl, rfl⟩ := hE
            have H1 := Lib.hid HTx
            clear HTx HTy hsame HT
            generalize txt (textV o rd rs1 rs2 im) = t1 at *
            go_wp2_with fail
            have hS0 := HS2.out
            clear c0 d0 HS2
            generalize w3.alloc (.cells #[.int .i64 o, .int .i64 rd, .int .i64 rs1, .int .i64 rs2, .int .i64 im, .int .i64 4] 23) = W at *
            generalize w3.heap.size = bY at *
            generalize w2.heap.size = bx at *
            unfold Two at hS0
            refine wp_region_held_drew (S := fun w' => w'.cell? ⟨bx, 0, none⟩ = some (.int .i64 o) ∧ w'.cell? ⟨bx, 1, none⟩ = some (.int .i64 rd) ∧ w'.cell? ⟨bx, 2, none⟩ = some (.int .i64 rs1) ∧ w'.cell? ⟨bx, 3, none⟩ = some (.int .i64 rs2) ∧ w'.cell? ⟨bx, 4, none⟩ = some (.int .i64 im) ∧ w'.cell? ⟨bx, 5, none⟩ = some (.int .i64 4) ∧ w'.cell? ⟨bY, 0, none⟩ = some (.int .i64 o) ∧ w'.cell? ⟨bY, 1, none⟩ = some (.int .i64 rd) ∧ w'.cell? ⟨bY, 2, none⟩ = some (.int .i64 rs1) ∧ w'.cell? ⟨bY, 3, none⟩ = some (.int .i64 rs2) ∧ w'.cell? ⟨bY, 4, none⟩ = some (.int .i64 im) ∧ w'.cell? ⟨bY, 5, none⟩ = some (.int .i64 4) ∧ Row w' bx 23 [.int .i64 o, .int .i64 rd, .int .i64 rs1, .int .i64 rs2, .int .i64 im, .int .i64 4] ∧ Row w' bY 23 [.int .i64 o, .int .i64 rd, .int .i64 rs1, .int .i64 rs2, .int .i64 im, .int .i64 4] ∧ Tabs w' ∧ w.grownBy w' none) (by kernel_rfl) ?_ (fun hHeld => ?_)
            · exact Two.on (gr_drew (gr_refl _ none)) hS0
            refine wpAnyH_take (i := 0) (oi := { dst := some 79, op := Op.move (Operand.tmp 7), type := 4, pos := "law.go:89", after := #[], guard := none }) (v := ?_) rfl (by kernel_rfl) (by kernel_rfl) (by kernel_rfl) (fun _ _ _ h => h) (Or.inl ⟨by rfl, ?_⟩) (by assumption) ?_
            rotate_left
            · (intro w hSw; (try dsimp only at hSw); go_simp; try with_reducible rfl)
            try simp only [Act.put, List.setIfInBounds_toArray, List.set_cons_zero, List.set_cons_succ]
            refine wpAnyH_take (i := 1) (oi := { dst := some 80, op := Op.move (Operand.tmp 79), type := 4, pos := "law.go:89", after := #[{ on := 0, ground := Ground.data }], guard := none }) (v := ?_) rfl (by kernel_rfl) (by kernel_rfl) (by kernel_rfl) (fun _ _ _ h => h) (Or.inl ⟨by rfl, ?_⟩) (by assumption) ?_
            rotate_left
            · (intro w hSw; (try dsimp only at hSw); go_simp; try with_reducible rfl)
            try simp only [Act.put, List.setIfInBounds_toArray, List.set_cons_zero, List.set_cons_succ]
            refine wpAnyH_take (i := 2) (oi := { dst := some 81, op := Op.load 23 (Operand.tmp 12), type := 23, pos := "law.go:89", after := #[{ on := 1, ground := Ground.guard }], guard := some (1, true) }) (v := ?_) rfl (by kernel_rfl) (by kernel_rfl) (by kernel_rfl) (fun _ _ _ h => h) (Or.inl ⟨by rfl, ?_⟩) (by assumption) ?_
            rotate_left
            · (intro w hSw; (try dsimp only at hSw); go_simp; try with_reducible rfl)
            try simp only [Act.put, List.setIfInBounds_toArray, List.set_cons_zero, List.set_cons_succ]
            refine wpAnyH_take (i := 4) (oi := { dst := some 83, op := Op.load 23 (Operand.tmp 13), type := 23, pos := "law.go:89", after := #[{ on := 1, ground := Ground.guard }], guard := some (1, true) }) (v := ?_) rfl (by kernel_rfl) (by kernel_rfl) (by kernel_rfl) (fun _ _ _ h => h) (Or.inl ⟨by rfl, ?_⟩) (by assumption) ?_
            rotate_left
            · (intro w hSw; (try dsimp only at hSw); go_simp; try with_reducible rfl)
            try simp only [Act.put, List.setIfInBounds_toArray, List.set_cons_zero, List.set_cons_succ]
            refine wpAnyH_take (i := 7) (oi := { dst := some 86, op := Op.load 23 (Operand.tmp 12), type := 23, pos := "law.go:89", after := #[{ on := 1, ground := Ground.guard }], guard := some (1, true) }) (v := ?_) rfl (by kernel_rfl) (by kernel_rfl) (by kernel_rfl) (fun _ _ _ h => h) (Or.inl ⟨by rfl, ?_⟩) (by assumption) ?_
            rotate_left
            · (intro w hSw; (try dsimp only at hSw); go_simp; try with_reducible rfl)
            try simp only [Act.put, List.setIfInBounds_toArray, List.set_cons_zero, List.set_cons_succ]
            refine wpAnyH_take (i := 8) (oi := { dst := some 87, op := Op.load 23 (Operand.tmp 13), type := 23, pos := "law.go:89", after := #[{ on := 1, ground := Ground.guard }], guard := some (1, true) }) (v := ?_) rfl (by kernel_rfl) (by kernel_rfl) (by kernel_rfl) (fun _ _ _ h => h) (Or.inl ⟨by rfl, ?_⟩) (by assumption) ?_
            rotate_left
            · (intro w hSw; (try dsimp only at hSw); go_simp; try with_reducible rfl)
            try simp only [Act.put, List.setIfInBounds_toArray, List.set_cons_zero, List.set_cons_succ]
            refine wpAnyH_take (i := 9) (oi := { dst := some 88, op := Op.binOp BinOp.eql 23 (Operand.tmp 86) (Operand.tmp 87) 23, type := 4, pos := "law.go:89", after := #[{ on := 7, ground := Ground.data }, { on := 8, ground := Ground.data }, { on := 1, ground := Ground.guard }], guard := some (1, true) }) (v := .bool true) rfl (by kernel_rfl) (by kernel_rfl) (by kernel_rfl) (fun _ _ _ h => h) (Or.inl ⟨by rfl, ?_⟩) (by assumption) ?_
            · (intro w hSw; (try dsimp only at hSw); go_simp <;> omega)
            try simp only [Act.put, List.setIfInBounds_toArray, List.set_cons_zero, List.set_cons_succ]
            refine wpAnyH_ready (rs := [3]) (by kernel_rfl) (by simp) ?_
            refine AllReadyH.cons (o := { dst := some 82, op := Op.call { callee := Callee.value (Operand.func 13), args := #[Operand.tmp 81], argTypes := #[23] }, type := 9, pos := "law.go:89", after := #[{ on := 2, ground := Ground.data }, { on := 1, ground := Ground.chain }, { on := 1, ground := Ground.guard }], guard := some (1, true) }) rfl (fun K hK => ?_) AllReadyH.nil
            go_simp
            go_at_call 13
            refine (H1.out _ (Two.parts hHeld).2.2.1).mono ?_
            rintro e wS3 ⟨rfl, hg⟩
            go_wp2_with fail
            refine hK.out _ _ ?_ (fun hHeld => ?_)
            · exact Two.on hg hHeld
            clear hK K
            try simp only [Act.put, List.setIfInBounds_toArray, List.set_cons_zero, List.set_cons_succ]
            refine wpAnyH_ready (rs := [5]) (by kernel_rfl) (by simp) ?_
            refine AllReadyH.cons (o := { dst := some 84, op := Op.call { callee := Callee.value (Operand.func 13), args := #[Operand.tmp 83], argTypes := #[23] }, type := 9, pos := "law.go:89", after := #[{ on := 4, ground := Ground.data }, { on := 3, ground := Ground.chain }, { on := 1, ground := Ground.guard }], guard := some (1, true) }) rfl (fun K hK => ?_) AllReadyH.nil
            go_simp
            go_at_call 13
            refine (H1.out _ (Two.parts hHeld).2.2.1).mono ?_
            rintro e wS5 ⟨rfl, hg⟩
            go_wp2_with fail
            refine hK.out _ _ ?_ (fun hHeld => ?_)
            · exact Two.on hg hHeld
            clear hK K
            try simp only [Act.put, List.setIfInBounds_toArray, List.set_cons_zero, List.set_cons_succ]
            refine wpAnyH_take (i := 6) (oi := { dst := some 85, op := Op.binOp BinOp.eql 9 (Operand.tmp 82) (Operand.tmp 84) 9, type := 4, pos := "law.go:89", after := #[{ on := 3, ground := Ground.data }, { on := 5, ground := Ground.data }, { on := 1, ground := Ground.guard }], guard := some (1, true) }) (v := .bool true) rfl (by kernel_rfl) (by kernel_rfl) (by kernel_rfl) (fun _ _ _ h => h) (Or.inl ⟨by rfl, ?_⟩) (by assumption) ?_
            · (intro w hSw; (try dsimp only at hSw); go_simp <;> omega)
            try simp only [Act.put, List.setIfInBounds_toArray, List.set_cons_zero, List.set_cons_succ]
            refine wpAnyH_take (i := 10) (oi := { dst := some 89, op := Op.binOp BinOp.eql 4 (Operand.tmp 85) (Operand.tmp 88) 4, type := 4, pos := "law.go:89", after := #[{ on := 6, ground := Ground.data }, { on := 9, ground := Ground.data }, { on := 1, ground := Ground.guard }], guard := some (1, true) }) (v := .bool true) rfl (by kernel_rfl) (by kernel_rfl) (by kernel_rfl) (fun _ _ _ h => h) (Or.inl ⟨by rfl, ?_⟩) (by assumption) ?_
            · (intro w hSw; (try dsimp only at hSw); go_simp <;> omega)
            try simp only [Act.put, List.setIfInBounds_toArray, List.set_cons_zero, List.set_cons_succ]
            refine wpAnyH_take (i := 11) (oi := { dst := some 90, op := Op.pick (Operand.tmp 80) (Operand.tmp 89) (Operand.const (Value.bool false)), type := 4, pos := "law.go:89", after := #[{ on := 1, ground := Ground.data }, { on := 10, ground := Ground.data }], guard := none }) (v := ?_) rfl (by kernel_rfl) (by kernel_rfl) (by kernel_rfl) (fun _ _ _ h => h) (Or.inl ⟨by rfl, ?_⟩) (by assumption) ?_
            rotate_left
            · (intro w hSw; (try dsimp only at hSw); go_simp; try with_reducible rfl)
            try simp only [Act.put, List.setIfInBounds_toArray, List.set_cons_zero, List.set_cons_succ]
            refine wpAnyH_take (i := 12) (oi := { dst := some 6, op := Op.assign (Operand.tmp 90), type := 4, pos := "law.go:89", after := #[{ on := 11, ground := Ground.data }, { on := 5, ground := Ground.chain }, { on := 0, ground := Ground.phase }, { on := 1, ground := Ground.phase }, { on := 2, ground := Ground.phase }, { on := 3, ground := Ground.phase }, { on := 4, ground := Ground.phase }, { on := 5, ground := Ground.phase }, { on := 6, ground := Ground.phase }, { on := 7, ground := Ground.phase }, { on := 8, ground := Ground.phase }, { on := 9, ground := Ground.phase }, { on := 10, ground := Ground.phase }, { on := 11, ground := Ground.phase }], guard := none }) (v := ?_) rfl (by kernel_rfl) (by kernel_rfl) (by kernel_rfl) (fun _ _ _ h => h) (Or.inl ⟨by rfl, ?_⟩) (by assumption) ?_
            rotate_left
            · (intro w hSw; (try dsimp only at hSw); go_simp; try with_reducible rfl)
            try simp only [Act.put, List.setIfInBounds_toArray, List.set_cons_zero, List.set_cons_succ]
            refine wpAnyH_done (by kernel_rfl) ?_ _
            have hBe := gr_below (Two.parts hHeld).2.2.2
            clear hHeld
            go_wp2_with fail
            go_ret
            exact ⟨rfl, hBe⟩
          · have hq := fun W => eql_no (a6 := 4) (b6 := 4) hE W
            have ht := hsame hE
            have H1 := Lib.hid HTx
            have H2 := Lib.hid HTy
            clear HTx HTy hsame hE HT
            generalize txt (textV o rd rs1 rs2 im) = t1 at *
            generalize txt (textV p sd ss1 ss2 jm) = t2 at *
            go_wp2_with fail
            have hS0 := HS2.out
            clear c0 d0 HS2
            generalize w3.alloc (.cells #[.int .i64 p, .int .i64 sd, .int .i64 ss1, .int .i64 ss2, .int .i64 jm, .int .i64 4] 23) = W at *
            generalize w3.heap.size = bY at *
            generalize w2.heap.size = bx at *
            unfold Two at hS0
            refine wp_region_held_drew (S := fun w' => w'.cell? ⟨bx, 0, none⟩ = some (.int .i64 o) ∧ w'.cell? ⟨bx, 1, none⟩ = some (.int .i64 rd) ∧ w'.cell? ⟨bx, 2, none⟩ = some (.int .i64 rs1) ∧ w'.cell? ⟨bx, 3, none⟩ = some (.int .i64 rs2) ∧ w'.cell? ⟨bx, 4, none⟩ = some (.int .i64 im) ∧ w'.cell? ⟨bx, 5, none⟩ = some (.int .i64 4) ∧ w'.cell? ⟨bY, 0, none⟩ = some (.int .i64 p) ∧ w'.cell? ⟨bY, 1, none⟩ = some (.int .i64 sd) ∧ w'.cell? ⟨bY, 2, none⟩ = some (.int .i64 ss1) ∧ w'.cell? ⟨bY, 3, none⟩ = some (.int .i64 ss2) ∧ w'.cell? ⟨bY, 4, none⟩ = some (.int .i64 jm) ∧ w'.cell? ⟨bY, 5, none⟩ = some (.int .i64 4) ∧ Row w' bx 23 [.int .i64 o, .int .i64 rd, .int .i64 rs1, .int .i64 rs2, .int .i64 im, .int .i64 4] ∧ Row w' bY 23 [.int .i64 p, .int .i64 sd, .int .i64 ss1, .int .i64 ss2, .int .i64 jm, .int .i64 4] ∧ Tabs w' ∧ w.grownBy w' none) (by kernel_rfl) ?_ (fun hHeld => ?_)
            · exact Two.on (gr_drew (gr_refl _ none)) hS0
            refine wpAnyH_take (i := 0) (oi := { dst := some 79, op := Op.move (Operand.tmp 7), type := 4, pos := "law.go:89", after := #[], guard := none }) (v := ?_) rfl (by kernel_rfl) (by kernel_rfl) (by kernel_rfl) (fun _ _ _ h => h) (Or.inl ⟨by rfl, ?_⟩) (by assumption) ?_
            rotate_left
            · (intro w hSw; (try dsimp only at hSw); go_simp; try with_reducible rfl)
            try simp only [Act.put, List.setIfInBounds_toArray, List.set_cons_zero, List.set_cons_succ]
            refine wpAnyH_take (i := 1) (oi := { dst := some 80, op := Op.move (Operand.tmp 79), type := 4, pos := "law.go:89", after := #[{ on := 0, ground := Ground.data }], guard := none }) (v := ?_) rfl (by kernel_rfl) (by kernel_rfl) (by kernel_rfl) (fun _ _ _ h => h) (Or.inl ⟨by rfl, ?_⟩) (by assumption) ?_
            rotate_left
            · (intro w hSw; (try dsimp only at hSw); go_simp; try with_reducible rfl)
            try simp only [Act.put, List.setIfInBounds_toArray, List.set_cons_zero, List.set_cons_succ]
            refine wpAnyH_take (i := 2) (oi := { dst := some 81, op := Op.load 23 (Operand.tmp 12), type := 23, pos := "law.go:89", after := #[{ on := 1, ground := Ground.guard }], guard := some (1, true) }) (v := ?_) rfl (by kernel_rfl) (by kernel_rfl) (by kernel_rfl) (fun _ _ _ h => h) (Or.inl ⟨by rfl, ?_⟩) (by assumption) ?_
            rotate_left
            · (intro w hSw; (try dsimp only at hSw); go_simp; try with_reducible rfl)
            try simp only [Act.put, List.setIfInBounds_toArray, List.set_cons_zero, List.set_cons_succ]
            refine wpAnyH_take (i := 4) (oi := { dst := some 83, op := Op.load 23 (Operand.tmp 13), type := 23, pos := "law.go:89", after := #[{ on := 1, ground := Ground.guard }], guard := some (1, true) }) (v := ?_) rfl (by kernel_rfl) (by kernel_rfl) (by kernel_rfl) (fun _ _ _ h => h) (Or.inl ⟨by rfl, ?_⟩) (by assumption) ?_
            rotate_left
            · (intro w hSw; (try dsimp only at hSw); go_simp; try with_reducible rfl)
            try simp only [Act.put, List.setIfInBounds_toArray, List.set_cons_zero, List.set_cons_succ]
            refine wpAnyH_take (i := 7) (oi := { dst := some 86, op := Op.load 23 (Operand.tmp 12), type := 23, pos := "law.go:89", after := #[{ on := 1, ground := Ground.guard }], guard := some (1, true) }) (v := ?_) rfl (by kernel_rfl) (by kernel_rfl) (by kernel_rfl) (fun _ _ _ h => h) (Or.inl ⟨by rfl, ?_⟩) (by assumption) ?_
            rotate_left
            · (intro w hSw; (try dsimp only at hSw); go_simp; try with_reducible rfl)
            try simp only [Act.put, List.setIfInBounds_toArray, List.set_cons_zero, List.set_cons_succ]
            refine wpAnyH_take (i := 8) (oi := { dst := some 87, op := Op.load 23 (Operand.tmp 13), type := 23, pos := "law.go:89", after := #[{ on := 1, ground := Ground.guard }], guard := some (1, true) }) (v := ?_) rfl (by kernel_rfl) (by kernel_rfl) (by kernel_rfl) (fun _ _ _ h => h) (Or.inl ⟨by rfl, ?_⟩) (by assumption) ?_
            rotate_left
            · (intro w hSw; (try dsimp only at hSw); go_simp; try with_reducible rfl)
            try simp only [Act.put, List.setIfInBounds_toArray, List.set_cons_zero, List.set_cons_succ]
            refine wpAnyH_take (i := 9) (oi := { dst := some 88, op := Op.binOp BinOp.eql 23 (Operand.tmp 86) (Operand.tmp 87) 23, type := 4, pos := "law.go:89", after := #[{ on := 7, ground := Ground.data }, { on := 8, ground := Ground.data }, { on := 1, ground := Ground.guard }], guard := some (1, true) }) (v := .bool false) rfl (by kernel_rfl) (by kernel_rfl) (by kernel_rfl) (fun _ _ _ h => h) (Or.inl ⟨by rfl, ?_⟩) (by assumption) ?_
            · (intro w hSw; (try dsimp only at hSw); go_simp <;> omega)
            try simp only [Act.put, List.setIfInBounds_toArray, List.set_cons_zero, List.set_cons_succ]
            refine wpAnyH_ready (rs := [3]) (by kernel_rfl) (by simp) ?_
            refine AllReadyH.cons (o := { dst := some 82, op := Op.call { callee := Callee.value (Operand.func 13), args := #[Operand.tmp 81], argTypes := #[23] }, type := 9, pos := "law.go:89", after := #[{ on := 2, ground := Ground.data }, { on := 1, ground := Ground.chain }, { on := 1, ground := Ground.guard }], guard := some (1, true) }) rfl (fun K hK => ?_) AllReadyH.nil
            go_simp
            go_at_call 13
            refine (H1.out _ (Two.parts hHeld).2.2.1).mono ?_
            rintro e wS3 ⟨rfl, hg⟩
            go_wp2_with fail
            refine hK.out _ _ ?_ (fun hHeld => ?_)
            · exact Two.on hg hHeld
            clear hK K
            try simp only [Act.put, List.setIfInBounds_toArray, List.set_cons_zero, List.set_cons_succ]
            refine wpAnyH_ready (rs := [5]) (by kernel_rfl) (by simp) ?_
            refine AllReadyH.cons (o := { dst := some 84, op := Op.call { callee := Callee.value (Operand.func 13), args := #[Operand.tmp 83], argTypes := #[23] }, type := 9, pos := "law.go:89", after := #[{ on := 4, ground := Ground.data }, { on := 3, ground := Ground.chain }, { on := 1, ground := Ground.guard }], guard := some (1, true) }) rfl (fun K hK => ?_) AllReadyH.nil
            go_simp
            go_at_call 13
            refine (H2.out _ (Two.parts hHeld).2.2.1).mono ?_
            rintro e wS5 ⟨rfl, hg⟩
            go_wp2_with fail
            refine hK.out _ _ ?_ (fun hHeld => ?_)
            · exact Two.on hg hHeld
            clear hK K
            try simp only [Act.put, List.setIfInBounds_toArray, List.set_cons_zero, List.set_cons_succ]
            refine wpAnyH_take (i := 6) (oi := { dst := some 85, op := Op.binOp BinOp.eql 9 (Operand.tmp 82) (Operand.tmp 84) 9, type := 4, pos := "law.go:89", after := #[{ on := 3, ground := Ground.data }, { on := 5, ground := Ground.data }, { on := 1, ground := Ground.guard }], guard := some (1, true) }) (v := .bool false) rfl (by kernel_rfl) (by kernel_rfl) (by kernel_rfl) (fun _ _ _ h => h) (Or.inl ⟨by rfl, ?_⟩) (by assumption) ?_
            · (intro w hSw; (try dsimp only at hSw); go_simp <;> omega)
            try simp only [Act.put, List.setIfInBounds_toArray, List.set_cons_zero, List.set_cons_succ]
            refine wpAnyH_take (i := 10) (oi := { dst := some 89, op := Op.binOp BinOp.eql 4 (Operand.tmp 85) (Operand.tmp 88) 4, type := 4, pos := "law.go:89", after := #[{ on := 6, ground := Ground.data }, { on := 9, ground := Ground.data }, { on := 1, ground := Ground.guard }], guard := some (1, true) }) (v := .bool true) rfl (by kernel_rfl) (by kernel_rfl) (by kernel_rfl) (fun _ _ _ h => h) (Or.inl ⟨by rfl, ?_⟩) (by assumption) ?_
            · (intro w hSw; (try dsimp only at hSw); go_simp <;> omega)
            try simp only [Act.put, List.setIfInBounds_toArray, List.set_cons_zero, List.set_cons_succ]
            refine wpAnyH_take (i := 11) (oi := { dst := some 90, op := Op.pick (Operand.tmp 80) (Operand.tmp 89) (Operand.const (Value.bool false)), type := 4, pos := "law.go:89", after := #[{ on := 1, ground := Ground.data }, { on := 10, ground := Ground.data }], guard := none }) (v := ?_) rfl (by kernel_rfl) (by kernel_rfl) (by kernel_rfl) (fun _ _ _ h => h) (Or.inl ⟨by rfl, ?_⟩) (by assumption) ?_
            rotate_left
            · (intro w hSw; (try dsimp only at hSw); go_simp; try with_reducible rfl)
            try simp only [Act.put, List.setIfInBounds_toArray, List.set_cons_zero, List.set_cons_succ]
            refine wpAnyH_take (i := 12) (oi := { dst := some 6, op := Op.assign (Operand.tmp 90), type := 4, pos := "law.go:89", after := #[{ on := 11, ground := Ground.data }, { on := 5, ground := Ground.chain }, { on := 0, ground := Ground.phase }, { on := 1, ground := Ground.phase }, { on := 2, ground := Ground.phase }, { on := 3, ground := Ground.phase }, { on := 4, ground := Ground.phase }, { on := 5, ground := Ground.phase }, { on := 6, ground := Ground.phase }, { on := 7, ground := Ground.phase }, { on := 8, ground := Ground.phase }, { on := 9, ground := Ground.phase }, { on := 10, ground := Ground.phase }, { on := 11, ground := Ground.phase }], guard := none }) (v := ?_) rfl (by kernel_rfl) (by kernel_rfl) (by kernel_rfl) (fun _ _ _ h => h) (Or.inl ⟨by rfl, ?_⟩) (by assumption) ?_
            rotate_left
            · (intro w hSw; (try dsimp only at hSw); go_simp; try with_reducible rfl)
            try simp only [Act.put, List.setIfInBounds_toArray, List.set_cons_zero, List.set_cons_succ]
            refine wpAnyH_done (by kernel_rfl) ?_ _
            have hBe := gr_below (Two.parts hHeld).2.2.2
            clear hHeld
            go_wp2_with fail
            go_ret
            exact ⟨rfl, hBe⟩
set_option maxRecDepth 100000 in
set_option maxHeartbeats 4000000 in
theorem way_big (x y : Nat) (hx : x < 4294967296) (hy : y < 4294967296) (m : Int) (hi : I64 m) (hm : 97 < m) (o rd rs1 rs2 im : Int) (hV : D.wordV x = (o, rd, rs1, rs2, im)) (p sd ss1 ss2 jm : Int) (hU : D.wordV y = (p, sd, ss1, ss2, jm)) (w : World) (hL : Tabs w) :
    Calls Tryz.prog 6 #[.int .u32 x, .int .u32 y, .int .i64 m] w fun e w' => e = .returned (.bool true) ∧ Below w.heap.size w w' := by
  have HX := Lib.hid (fun W => rWord_at hx hV W)
  have HY := Lib.hid (fun W => rWord_at hy hU W)
  have hnm : nameV m = [] := by rw [nameV, if_pos (by omega)]
  obtain ⟨sb, hsb⟩ : ∃ s, s = txt (nameV m) := ⟨_, rfl⟩
  have hs1 : (sb.toList == []) = true := by rw [hsb, hnm, txt_toList]; rfl
  have hs0 : sb.size = 0 := by rw [hsb, hnm, txt_size]; rfl
  have HNm := Lib.hid (fun W (h : Nam W) => Name_c m hi W h)
  rw [← hsb] at HNm
  have hCx := word_can x
  have hCy := word_can y
  rw [hV] at hCx
  rw [hU] at hCy
  have HT := Lib.hid (texts hCx hCy)
  clear hCx hCy
  have hdm : (0 : Int) ≤ m := by omega
  have hdn : decide (m ≤ 97) = false := by simp; omega
  clear hV hU hsb hnm
  go_enter Tryz.func6, Tryz.ntmps6
  go_wp2_with fail
  refine (shown06_c _ hL).mono ?_
  rintro e w1 ⟨rfl, hG1⟩
  go_wp2_with fail
  refine (HNm.out _ (hL.2.1.grown hG1)).mono ?_
  rintro e w' ⟨rfl, rfl⟩
  have HL1 := Lib.hid (hL.grown hG1)
  have HLw := Lib.hid hL
  have HG1 := Lib.hid hG1
  clear hL hG1
  go_wp2_with fail
  go_loop [10] (fun i => ∃ k : Nat, k ≤ 98 ∧ i = .int .i64 k) (fun i => 98 - (intOf i).toNat)
  case atStart => exact ⟨0, by omega, rfl⟩
  case round =>
    obtain ⟨k, hk, rfl⟩ := hrel
    by_cases hlt : k ≤ 97
    · have q1 : ((k : Int) != m) = true := by simp; omega
      go_wp2_with fail
      all_goals exact ⟨⟨k + 1, by omega, by go_num⟩, by simp [intOf]; omega⟩
    · obtain rfl : k = 98 := by omega
      go_wp2_with fail
      go_loop [11] (fun i => i = .int .i64 0) (fun i => 0)
      case atStart => rfl
      case round =>
        obtain rfl := hrel
        · have hz : ((sb.size : Nat) : Int) = 0 := by omega
          go_wp2_with fail
          refine (HX.out _).mono ?_
          rintro e w2 ⟨rfl, hG2⟩
          go_wp2_with fail
          refine (HY.out _).mono ?_
          rintro e w3 ⟨rfl, hG3⟩
          have R1 := (Row.fresh w2 23 [.int .i64 o, .int .i64 rd, .int .i64 rs1, .int .i64 rs2, .int .i64 im, .int .i64 4]).grown hG3 (by simp)
          have hGa : w.grownBy w3 none := gr_trans (gr_alloc (gr_trans HG1.out hG2) (.cells #[.int .i64 o, .int .i64 rd, .int .i64 rs1, .int .i64 rs2, .int .i64 im, .int .i64 4] 23)) hG3
          have hGb := gr_alloc hGa (.cells #[.int .i64 p, .int .i64 sd, .int .i64 ss1, .int .i64 ss2, .int .i64 jm, .int .i64 4] 23)
          have hS : Two w w2.heap.size w3.heap.size o rd rs1 rs2 im p sd ss1 ss2 jm (w3.alloc (.cells #[.int .i64 p, .int .i64 sd, .int .i64 ss1, .int .i64 ss2, .int .i64 jm, .int .i64 4] 23)) :=
            two_of (R1.alloc _) (Row.fresh w3 _ _) (HLw.out.grown hGb) hGb
          have c0 := hS.1
          have d0 := hS.2.2.2.2.2.2.1
          have HS2 := Lib.hid hS
          clear hG2 hG3 R1 hGa hGb hS
          by_cases h69 : o = 69
          · subst h69
            go_wp2_with fail
            go_ret
            exact ⟨rfl, gr_below HS2.out.parts.2.2.2⟩
          by_cases p69 : p = 69
          · subst p69
            have q1 : (o == 69) = false := by simpa using h69
            go_wp2_with fail
            go_ret
            exact ⟨rfl, gr_below HS2.out.parts.2.2.2⟩
          have q1 : (o == 69) = false := by simpa using h69
          have q2 : (p == 69) = false := by simpa using p69
          obtain ⟨HTx, HTy, hsame⟩ := HT.out h69
          by_cases hE : o = p ∧ rd = sd ∧ rs1 = ss1 ∧ rs2 = ss2 ∧ im = jm
          · obtain ⟨rfl, rfl, rfl, rfl, rfl⟩ := hE
            have H1 := Lib.hid HTx
            clear HTx HTy hsame HT
            generalize txt (textV o rd rs1 rs2 im) = t1 at *
            go_wp2_with fail
            have hS0 := HS2.out
            clear c0 d0 HS2
            generalize w3.alloc (.cells #[.int .i64 o, .int .i64 rd, .int .i64 rs1, .int .i64 rs2, .int .i64 im, .int .i64 4] 23) = W at *
            generalize w3.heap.size = bY at *
            generalize w2.heap.size = bx at *
            unfold Two at hS0
            refine wp_region_held_drew (S := fun w' => w'.cell? ⟨bx, 0, none⟩ = some (.int .i64 o) ∧ w'.cell? ⟨bx, 1, none⟩ = some (.int .i64 rd) ∧ w'.cell? ⟨bx, 2, none⟩ = some (.int .i64 rs1) ∧ w'.cell? ⟨bx, 3, none⟩ = some (.int .i64 rs2) ∧ w'.cell? ⟨bx, 4, none⟩ = some (.int .i64 im) ∧ w'.cell? ⟨bx, 5, none⟩ = some (.int .i64 4) ∧ w'.cell? ⟨bY, 0, none⟩ = some (.int .i64 o) ∧ w'.cell? ⟨bY, 1, none⟩ = some (.int .i64 rd) ∧ w'.cell? ⟨bY, 2, none⟩ = some (.int .i64 rs1) ∧ w'.cell? ⟨bY, 3, none⟩ = some (.int .i64 rs2) ∧ w'.cell? ⟨bY, 4, none⟩ = some (.int .i64 im) ∧ w'.cell? ⟨bY, 5, none⟩ = some (.int .i64 4) ∧ Row w' bx 23 [.int .i64 o, .int .i64 rd, .int .i64 rs1, .int .i64 rs2, .int .i64 im, .int .i64 4] ∧ Row w' bY 23 [.int .i64 o, .int .i64 rd, .int .i64 rs1, .int .i64 rs2, .int .i64 im, .int .i64 4] ∧ Tabs w' ∧ w.grownBy w' none) (by kernel_rfl) ?_ (fun hHeld => ?_)
            · exact Two.on (gr_drew (gr_refl _ none)) hS0
            refine wpAnyH_take (i := 0) (oi := { dst := some 79, op := Op.move (Operand.tmp 7), type := 4, pos := "law.go:89", after := #[], guard := none }) (v := ?_) rfl (by kernel_rfl) (by kernel_rfl) (by kernel_rfl) (fun _ _ _ h => h) (Or.inl ⟨by rfl, ?_⟩) (by assumption) ?_
            rotate_left
            · (intro w hSw; (try dsimp only at hSw); go_simp; try with_reducible rfl)
            try simp only [Act.put, List.setIfInBounds_toArray, List.set_cons_zero, List.set_cons_succ]
            refine wpAnyH_take (i := 1) (oi := { dst := some 80, op := Op.move (Operand.tmp 79), type := 4, pos := "law.go:89", after := #[{ on := 0, ground := Ground.data }], guard := none }) (v := ?_) rfl (by kernel_rfl) (by kernel_rfl) (by kernel_rfl) (fun _ _ _ h => h) (Or.inl ⟨by rfl, ?_⟩) (by assumption) ?_
            rotate_left
            · (intro w hSw; (try dsimp only at hSw); go_simp; try with_reducible rfl)
            try simp only [Act.put, List.setIfInBounds_toArray, List.set_cons_zero, List.set_cons_succ]
            refine wpAnyH_take (i := 2) (oi := { dst := some 81, op := Op.load 23 (Operand.tmp 12), type := 23, pos := "law.go:89", after := #[{ on := 1, ground := Ground.guard }], guard := some (1, true) }) (v := ?_) rfl (by kernel_rfl) (by kernel_rfl) (by kernel_rfl) (fun _ _ _ h => h) (Or.inl ⟨by rfl, ?_⟩) (by assumption) ?_
            rotate_left
            · (intro w hSw; (try dsimp only at hSw); go_simp; try with_reducible rfl)
            try simp only [Act.put, List.setIfInBounds_toArray, List.set_cons_zero, List.set_cons_succ]
            refine wpAnyH_take (i := 4) (oi := { dst := some 83, op := Op.load 23 (Operand.tmp 13), type := 23, pos := "law.go:89", after := #[{ on := 1, ground := Ground.guard }], guard := some (1, true) }) (v := ?_) rfl (by kernel_rfl) (by kernel_rfl) (by kernel_rfl) (fun _ _ _ h => h) (Or.inl ⟨by rfl, ?_⟩) (by assumption) ?_
            rotate_left
            · (intro w hSw; (try dsimp only at hSw); go_simp; try with_reducible rfl)
            try simp only [Act.put, List.setIfInBounds_toArray, List.set_cons_zero, List.set_cons_succ]
            refine wpAnyH_take (i := 7) (oi := { dst := some 86, op := Op.load 23 (Operand.tmp 12), type := 23, pos := "law.go:89", after := #[{ on := 1, ground := Ground.guard }], guard := some (1, true) }) (v := ?_) rfl (by kernel_rfl) (by kernel_rfl) (by kernel_rfl) (fun _ _ _ h => h) (Or.inl ⟨by rfl, ?_⟩) (by assumption) ?_
            rotate_left
            · (intro w hSw; (try dsimp only at hSw); go_simp; try with_reducible rfl)
            try simp only [Act.put, List.setIfInBounds_toArray, List.set_cons_zero, List.set_cons_succ]
            refine wpAnyH_take (i := 8) (oi := { dst := some 87, op := Op.load 23 (Operand.tmp 13), type := 23, pos := "law.go:89", after := #[{ on := 1, ground := Ground.guard }], guard := some (1, true) }) (v := ?_) rfl (by kernel_rfl) (by kernel_rfl) (by kernel_rfl) (fun _ _ _ h => h) (Or.inl ⟨by rfl, ?_⟩) (by assumption) ?_
            rotate_left
            · (intro w hSw; (try dsimp only at hSw); go_simp; try with_reducible rfl)
            try simp only [Act.put, List.setIfInBounds_toArray, List.set_cons_zero, List.set_cons_succ]
            refine wpAnyH_take (i := 9) (oi := { dst := some 88, op := Op.binOp BinOp.eql 23 (Operand.tmp 86) (Operand.tmp 87) 23, type := 4, pos := "law.go:89", after := #[{ on := 7, ground := Ground.data }, { on := 8, ground := Ground.data }, { on := 1, ground := Ground.guard }], guard := some (1, true) }) (v := .bool true) rfl (by kernel_rfl) (by kernel_rfl) (by kernel_rfl) (fun _ _ _ h => h) (Or.inl ⟨by rfl, ?_⟩) (by assumption) ?_
            · (intro w hSw; (try dsimp only at hSw); go_simp <;> omega)
            try simp only [Act.put, List.setIfInBounds_toArray, List.set_cons_zero, List.set_cons_succ]
            refine wpAnyH_ready (rs := [3]) (by kernel_rfl) (by simp) ?_
            refine AllReadyH.cons (o := { dst := some 82, op := Op.call { callee := Callee.value (Operand.func 13), args := #[Operand.tmp 81], argTypes := #[23] }, type := 9, pos := "law.go:89", after := #[{ on := 2, ground := Ground.data }, { on := 1, ground := Ground.chain }, { on := 1, ground := Ground.guard }], guard := some (1, true) }) rfl (fun K hK => ?_) AllReadyH.nil
            go_simp
            go_at_call 13
            refine (H1.out _ (Two.parts hHeld).2.2.1).mono ?_
            rintro e wS3 ⟨rfl, hg⟩
            go_wp2_with fail
            refine hK.out _ _ ?_ (fun hHeld => ?_)
            · exact Two.on hg hHeld
            clear hK K
            try simp only [Act.put, List.setIfInBounds_toArray, List.set_cons_zero, List.set_cons_succ]
            refine wpAnyH_ready (rs := [5]) (by kernel_rfl) (by simp) ?_
            refine AllReadyH.cons (o := { dst := some 84, op := Op.call { callee := Callee.value (Operand.func 13), args := #[Operand.tmp 83], argTypes := #[23] }, type := 9, pos := "law.go:89", after := #[{ on := 4, ground := Ground.data }, { on := 3, ground := Ground.chain }, { on := 1, ground := Ground.guard }], guard := some (1, true) }) rfl (fun K hK => ?_) AllReadyH.nil
            go_simp
            go_at_call 13
            refine (H1.out _ (Two.parts hHeld).2.2.1).mono ?_
            rintro e wS5 ⟨rfl, hg⟩
            go_wp2_with fail
            refine hK.out _ _ ?_ (fun hHeld => ?_)
            · exact Two.on hg hHeld
            clear hK K
            try simp only [Act.put, List.setIfInBounds_toArray, List.set_cons_zero, List.set_cons_succ]
            refine wpAnyH_take (i := 6) (oi := { dst := some 85, op := Op.binOp BinOp.eql 9 (Operand.tmp 82) (Operand.tmp 84) 9, type := 4, pos := "law.go:89", after := #[{ on := 3, ground := Ground.data }, { on := 5, ground := Ground.data }, { on := 1, ground := Ground.guard }], guard := some (1, true) }) (v := .bool true) rfl (by kernel_rfl) (by kernel_rfl) (by kernel_rfl) (fun _ _ _ h => h) (Or.inl ⟨by rfl, ?_⟩) (by assumption) ?_
            · (intro w hSw; (try dsimp only at hSw); go_simp <;> omega)
            try simp only [Act.put, List.setIfInBounds_toArray, List.set_cons_zero, List.set_cons_succ]
            refine wpAnyH_take (i := 10) (oi := { dst := some 89, op := Op.binOp BinOp.eql 4 (Operand.tmp 85) (Operand.tmp 88) 4, type := 4, pos := "law.go:89", after := #[{ on := 6, ground := Ground.data }, { on := 9, ground := Ground.data }, { on := 1, ground := Ground.guard }], guard := some (1, true) }) (v := .bool true) rfl (by kernel_rfl) (by kernel_rfl) (by kernel_rfl) (fun _ _ _ h => h) (Or.inl ⟨by rfl, ?_⟩) (by assumption) ?_
            · (intro w hSw; (try dsimp only at hSw); go_simp <;> omega)
            try simp only [Act.put, List.setIfInBounds_toArray, List.set_cons_zero, List.set_cons_succ]
            refine wpAnyH_take (i := 11) (oi := { dst := some 90, op := Op.pick (Operand.tmp 80) (Operand.tmp 89) (Operand.const (Value.bool false)), type := 4, pos := "law.go:89", after := #[{ on := 1, ground := Ground.data }, { on := 10, ground := Ground.data }], guard := none }) (v := ?_) rfl (by kernel_rfl) (by kernel_rfl) (by kernel_rfl) (fun _ _ _ h => h) (Or.inl ⟨by rfl, ?_⟩) (by assumption) ?_
            rotate_left
            · (intro w hSw; (try dsimp only at hSw); go_simp; try with_reducible rfl)
            try simp only [Act.put, List.setIfInBounds_toArray, List.set_cons_zero, List.set_cons_succ]
            refine wpAnyH_take (i := 12) (oi := { dst := some 6, op := Op.assign (Operand.tmp 90), type := 4, pos := "law.go:89", after := #[{ on := 11, ground := Ground.data }, { on := 5, ground := Ground.chain }, { on := 0, ground := Ground.phase }, { on := 1, ground := Ground.phase }, { on := 2, ground := Ground.phase }, { on := 3, ground := Ground.phase }, { on := 4, ground := Ground.phase }, { on := 5, ground := Ground.phase }, { on := 6, ground := Ground.phase }, { on := 7, ground := Ground.phase }, { on := 8, ground := Ground.phase }, { on := 9, ground := Ground.phase }, { on := 10, ground := Ground.phase }, { on := 11, ground := Ground.phase }], guard := none }) (v := ?_) rfl (by kernel_rfl) (by kernel_rfl) (by kernel_rfl) (fun _ _ _ h => h) (Or.inl ⟨by rfl, ?_⟩) (by assumption) ?_
            rotate_left
            · (intro w hSw; (try dsimp only at hSw); go_simp; try with_reducible rfl)
            try simp only [Act.put, List.setIfInBounds_toArray, List.set_cons_zero, List.set_cons_succ]
            refine wpAnyH_done (by kernel_rfl) ?_ _
            have hBe := gr_below (Two.parts hHeld).2.2.2
            clear hHeld
            go_wp2_with fail
            go_ret
            exact ⟨rfl, hBe⟩
          · have hq := fun W => eql_no (a6 := 4) (b6 := 4) hE W
            have ht := hsame hE
            have H1 := Lib.hid HTx
            have H2 := Lib.hid HTy
            clear HTx HTy hsame hE HT
            generalize txt (textV o rd rs1 rs2 im) = t1 at *
            generalize txt (textV p sd ss1 ss2 jm) = t2 at *
            go_wp2_with fail
            have hS0 := HS2.out
            clear c0 d0 HS2
            generalize w3.alloc (.cells #[.int .i64 p, .int .i64 sd, .int .i64 ss1, .int .i64 ss2, .int .i64 jm, .int .i64 4] 23) = W at *
            generalize w3.heap.size = bY at *
            generalize w2.heap.size = bx at *
            unfold Two at hS0
            refine wp_region_held_drew (S := fun w' => w'.cell? ⟨bx, 0, none⟩ = some (.int .i64 o) ∧ w'.cell? ⟨bx, 1, none⟩ = some (.int .i64 rd) ∧ w'.cell? ⟨bx, 2, none⟩ = some (.int .i64 rs1) ∧ w'.cell? ⟨bx, 3, none⟩ = some (.int .i64 rs2) ∧ w'.cell? ⟨bx, 4, none⟩ = some (.int .i64 im) ∧ w'.cell? ⟨bx, 5, none⟩ = some (.int .i64 4) ∧ w'.cell? ⟨bY, 0, none⟩ = some (.int .i64 p) ∧ w'.cell? ⟨bY, 1, none⟩ = some (.int .i64 sd) ∧ w'.cell? ⟨bY, 2, none⟩ = some (.int .i64 ss1) ∧ w'.cell? ⟨bY, 3, none⟩ = some (.int .i64 ss2) ∧ w'.cell? ⟨bY, 4, none⟩ = some (.int .i64 jm) ∧ w'.cell? ⟨bY, 5, none⟩ = some (.int .i64 4) ∧ Row w' bx 23 [.int .i64 o, .int .i64 rd, .int .i64 rs1, .int .i64 rs2, .int .i64 im, .int .i64 4] ∧ Row w' bY 23 [.int .i64 p, .int .i64 sd, .int .i64 ss1, .int .i64 ss2, .int .i64 jm, .int .i64 4] ∧ Tabs w' ∧ w.grownBy w' none) (by kernel_rfl) ?_ (fun hHeld => ?_)
            · exact Two.on (gr_drew (gr_refl _ none)) hS0
            refine wpAnyH_take (i := 0) (oi := { dst := some 79, op := Op.move (Operand.tmp 7), type := 4, pos := "law.go:89", after := #[], guard := none }) (v := ?_) rfl (by kernel_rfl) (by kernel_rfl) (by kernel_rfl) (fun _ _ _ h => h) (Or.inl ⟨by rfl, ?_⟩) (by assumption) ?_
            rotate_left
            · (intro w hSw; (try dsimp only at hSw); go_simp; try with_reducible rfl)
            try simp only [Act.put, List.setIfInBounds_toArray, List.set_cons_zero, List.set_cons_succ]
            refine wpAnyH_take (i := 1) (oi := { dst := some 80, op := Op.move (Operand.tmp 79), type := 4, pos := "law.go:89", after := #[{ on := 0, ground := Ground.data }], guard := none }) (v := ?_) rfl (by kernel_rfl) (by kernel_rfl) (by kernel_rfl) (fun _ _ _ h => h) (Or.inl ⟨by rfl, ?_⟩) (by assumption) ?_
            rotate_left
            · (intro w hSw; (try dsimp only at hSw); go_simp; try with_reducible rfl)
            try simp only [Act.put, List.setIfInBounds_toArray, List.set_cons_zero, List.set_cons_succ]
            refine wpAnyH_take (i := 2) (oi := { dst := some 81, op := Op.load 23 (Operand.tmp 12), type := 23, pos := "law.go:89", after := #[{ on := 1, ground := Ground.guard }], guard := some (1, true) }) (v := ?_) rfl (by kernel_rfl) (by kernel_rfl) (by kernel_rfl) (fun _ _ _ h => h) (Or.inl ⟨by rfl, ?_⟩) (by assumption) ?_
            rotate_left
            · (intro w hSw; (try dsimp only at hSw); go_simp; try with_reducible rfl)
            try simp only [Act.put, List.setIfInBounds_toArray, List.set_cons_zero, List.set_cons_succ]
            refine wpAnyH_take (i := 4) (oi := { dst := some 83, op := Op.load 23 (Operand.tmp 13), type := 23, pos := "law.go:89", after := #[{ on := 1, ground := Ground.guard }], guard := some (1, true) }) (v := ?_) rfl (by kernel_rfl) (by kernel_rfl) (by kernel_rfl) (fun _ _ _ h => h) (Or.inl ⟨by rfl, ?_⟩) (by assumption) ?_
            rotate_left
            · (intro w hSw; (try dsimp only at hSw); go_simp; try with_reducible rfl)
            try simp only [Act.put, List.setIfInBounds_toArray, List.set_cons_zero, List.set_cons_succ]
            refine wpAnyH_take (i := 7) (oi := { dst := some 86, op := Op.load 23 (Operand.tmp 12), type := 23, pos := "law.go:89", after := #[{ on := 1, ground := Ground.guard }], guard := some (1, true) }) (v := ?_) rfl (by kernel_rfl) (by kernel_rfl) (by kernel_rfl) (fun _ _ _ h => h) (Or.inl ⟨by rfl, ?_⟩) (by assumption) ?_
            rotate_left
            · (intro w hSw; (try dsimp only at hSw); go_simp; try with_reducible rfl)
            try simp only [Act.put, List.setIfInBounds_toArray, List.set_cons_zero, List.set_cons_succ]
            refine wpAnyH_take (i := 8) (oi := { dst := some 87, op := Op.load 23 (Operand.tmp 13), type := 23, pos := "law.go:89", after := #[{ on := 1, ground := Ground.guard }], guard := some (1, true) }) (v := ?_) rfl (by kernel_rfl) (by kernel_rfl) (by kernel_rfl) (fun _ _ _ h => h) (Or.inl ⟨by rfl, ?_⟩) (by assumption) ?_
            rotate_left
            · (intro w hSw; (try dsimp only at hSw); go_simp; try with_reducible rfl)
            try simp only [Act.put, List.setIfInBounds_toArray, List.set_cons_zero, List.set_cons_succ]
            refine wpAnyH_take (i := 9) (oi := { dst := some 88, op := Op.binOp BinOp.eql 23 (Operand.tmp 86) (Operand.tmp 87) 23, type := 4, pos := "law.go:89", after := #[{ on := 7, ground := Ground.data }, { on := 8, ground := Ground.data }, { on := 1, ground := Ground.guard }], guard := some (1, true) }) (v := .bool false) rfl (by kernel_rfl) (by kernel_rfl) (by kernel_rfl) (fun _ _ _ h => h) (Or.inl ⟨by rfl, ?_⟩) (by assumption) ?_
            · (intro w hSw; (try dsimp only at hSw); go_simp <;> omega)
            try simp only [Act.put, List.setIfInBounds_toArray, List.set_cons_zero, List.set_cons_succ]
            refine wpAnyH_ready (rs := [3]) (by kernel_rfl) (by simp) ?_
            refine AllReadyH.cons (o := { dst := some 82, op := Op.call { callee := Callee.value (Operand.func 13), args := #[Operand.tmp 81], argTypes := #[23] }, type := 9, pos := "law.go:89", after := #[{ on := 2, ground := Ground.data }, { on := 1, ground := Ground.chain }, { on := 1, ground := Ground.guard }], guard := some (1, true) }) rfl (fun K hK => ?_) AllReadyH.nil
            go_simp
            go_at_call 13
            refine (H1.out _ (Two.parts hHeld).2.2.1).mono ?_
            rintro e wS3 ⟨rfl, hg⟩
            go_wp2_with fail
            refine hK.out _ _ ?_ (fun hHeld => ?_)
            · exact Two.on hg hHeld
            clear hK K
            try simp only [Act.put, List.setIfInBounds_toArray, List.set_cons_zero, List.set_cons_succ]
            refine wpAnyH_ready (rs := [5]) (by kernel_rfl) (by simp) ?_
            refine AllReadyH.cons (o := { dst := some 84, op := Op.call { callee := Callee.value (Operand.func 13), args := #[Operand.tmp 83], argTypes := #[23] }, type := 9, pos := "law.go:89", after := #[{ on := 4, ground := Ground.data }, { on := 3, ground := Ground.chain }, { on := 1, ground := Ground.guard }], guard := some (1, true) }) rfl (fun K hK => ?_) AllReadyH.nil
            go_simp
            go_at_call 13
            refine (H2.out _ (Two.parts hHeld).2.2.1).mono ?_
            rintro e wS5 ⟨rfl, hg⟩
            go_wp2_with fail
            refine hK.out _ _ ?_ (fun hHeld => ?_)
            · exact Two.on hg hHeld
            clear hK K
            try simp only [Act.put, List.setIfInBounds_toArray, List.set_cons_zero, List.set_cons_succ]
            refine wpAnyH_take (i := 6) (oi := { dst := some 85, op := Op.binOp BinOp.eql 9 (Operand.tmp 82) (Operand.tmp 84) 9, type := 4, pos := "law.go:89", after := #[{ on := 3, ground := Ground.data }, { on := 5, ground := Ground.data }, { on := 1, ground := Ground.guard }], guard := some (1, true) }) (v := .bool false) rfl (by kernel_rfl) (by kernel_rfl) (by kernel_rfl) (fun _ _ _ h => h) (Or.inl ⟨by rfl, ?_⟩) (by assumption) ?_
            · (intro w hSw; (try dsimp only at hSw); go_simp <;> omega)
            try simp only [Act.put, List.setIfInBounds_toArray, List.set_cons_zero, List.set_cons_succ]
            refine wpAnyH_take (i := 10) (oi := { dst := some 89, op := Op.binOp BinOp.eql 4 (Operand.tmp 85) (Operand.tmp 88) 4, type := 4, pos := "law.go:89", after := #[{ on := 6, ground := Ground.data }, { on := 9, ground := Ground.data }, { on := 1, ground := Ground.guard }], guard := some (1, true) }) (v := .bool true) rfl (by kernel_rfl) (by kernel_rfl) (by kernel_rfl) (fun _ _ _ h => h) (Or.inl ⟨by rfl, ?_⟩) (by assumption) ?_
            · (intro w hSw; (try dsimp only at hSw); go_simp <;> omega)
            try simp only [Act.put, List.setIfInBounds_toArray, List.set_cons_zero, List.set_cons_succ]
            refine wpAnyH_take (i := 11) (oi := { dst := some 90, op := Op.pick (Operand.tmp 80) (Operand.tmp 89) (Operand.const (Value.bool false)), type := 4, pos := "law.go:89", after := #[{ on := 1, ground := Ground.data }, { on := 10, ground := Ground.data }], guard := none }) (v := ?_) rfl (by kernel_rfl) (by kernel_rfl) (by kernel_rfl) (fun _ _ _ h => h) (Or.inl ⟨by rfl, ?_⟩) (by assumption) ?_
            rotate_left
            · (intro w hSw; (try dsimp only at hSw); go_simp; try with_reducible rfl)
            try simp only [Act.put, List.setIfInBounds_toArray, List.set_cons_zero, List.set_cons_succ]
            refine wpAnyH_take (i := 12) (oi := { dst := some 6, op := Op.assign (Operand.tmp 90), type := 4, pos := "law.go:89", after := #[{ on := 11, ground := Ground.data }, { on := 5, ground := Ground.chain }, { on := 0, ground := Ground.phase }, { on := 1, ground := Ground.phase }, { on := 2, ground := Ground.phase }, { on := 3, ground := Ground.phase }, { on := 4, ground := Ground.phase }, { on := 5, ground := Ground.phase }, { on := 6, ground := Ground.phase }, { on := 7, ground := Ground.phase }, { on := 8, ground := Ground.phase }, { on := 9, ground := Ground.phase }, { on := 10, ground := Ground.phase }, { on := 11, ground := Ground.phase }], guard := none }) (v := ?_) rfl (by kernel_rfl) (by kernel_rfl) (by kernel_rfl) (fun _ _ _ h => h) (Or.inl ⟨by rfl, ?_⟩) (by assumption) ?_
            rotate_left
            · (intro w hSw; (try dsimp only at hSw); go_simp; try with_reducible rfl)
            try simp only [Act.put, List.setIfInBounds_toArray, List.set_cons_zero, List.set_cons_succ]
            refine wpAnyH_done (by kernel_rfl) ?_ _
            have hBe := gr_below (Two.parts hHeld).2.2.2
            clear hHeld
            go_wp2_with fail
            go_ret
            exact ⟨rfl, hBe⟩
theorem walk (w : World) (hL : Tabs w) (a0 : Int) (w0 : (Lit.int .u32 a0).wf = true) (a1 : Int) (w1 : (Lit.int .u32 a1).wf = true) (a2 : Int) (w2 : (Lit.int .i64 a2).wf = true) :
    Calls Tryz.prog 6 #[.int .u32 a0, .int .u32 a1, .int .i64 a2] w fun e w' => e = .returned (.bool true) ∧ Below w.heap.size w w' := by
  have h0 := bounds_u32 w0
  have h1 := bounds_u32 w1
  have h2 := bounds_i64 w2
  obtain ⟨x, rfl⟩ : ∃ x : Nat, a0 = x := ⟨a0.toNat, by omega⟩
  obtain ⟨y, rfl⟩ : ∃ y : Nat, a1 = y := ⟨a1.toNat, by omega⟩
  obtain ⟨o, rd, rs1, rs2, im, hV⟩ : ∃ o rd rs1 rs2 im, D.wordV x = (o, rd, rs1, rs2, im) := ⟨_, _, _, _, _, rfl⟩
  obtain ⟨p, sd, ss1, ss2, jm, hU⟩ : ∃ p sd ss1 ss2 jm, D.wordV y = (p, sd, ss1, ss2, jm) := ⟨_, _, _, _, _, rfl⟩
  rcases (show a2 < 0 ∨ 97 < a2 ∨ (0 ≤ a2 ∧ a2 ≤ 97) by omega) with h | h | h
  · exact way_neg x y (by omega) (by omega) a2 h2 h o rd rs1 rs2 im hV p sd ss1 ss2 jm hU w hL
  · exact way_big x y (by omega) (by omega) a2 h2 h o rd rs1 rs2 im hV p sd ss1 ss2 jm hU w hL
  · obtain ⟨m, rfl⟩ : ∃ m : Nat, a2 = m := ⟨a2.toNat, by omega⟩
    exact way_in x y (by omega) (by omega) m (by omega) o rd rs1 rs2 im hV p sd ss1 ss2 jm hU w hL

theorem own : ownKnob Tryz.prog.godebug = none := by kernel_rfl
theorem laidOut : laidOutB Tryz.prog = true := by kernel_rfl

set_option maxRecDepth 100000 in
theorem lifted (os : Os) (started : os.Started) (H : Type) (enc : TypeId × Value → H) :
    ReturnsInHanded {} Tryz.checked os 6 .any (fun w args => (Rows.encNamesSpec.pre enc Tryz.prog Tryz.f6 [] false w args ∧ laidMetH Tryz.prog laidL w) ∧ sizedMet enc Tryz.prog Tryz.f6 (OpenSpec.ofChange Rows.encNamesSpec) false w args)
      (Rows.encNamesSpec.post enc Tryz.prog Tryz.f6 false true false false) := by
  refine returnsInHanded_of_change_and (C := Tryz.checked) (X := fun w _ => laidMetH Tryz.prog laidL w) (fun _ _ _ hh h => h.of_heap hh) own started (by kernel_rfl) Tryz.func6
    (ChangeSpec.witness_shaped (enc := enc) (C := Tryz.checked) (os := os) (X := fun w _ => laidMetH Tryz.prog laidL w) false (World.doorLaid Tryz.prog 400 os) #[.int .u32 0, .int .u32 0, .int .i64 0] 8 rfl (World.shaped_of_RefB (by kernel_rfl) (by kernel_rfl)) (by kernel_rfl) (by kernel_rfl) (by kernel_rfl) (door_met os _)) ?_
  intro W base args ds gs before hval0 hW _ _ hL _
  have hval : ∀ (j : Nat) t v, Tryz.f6.params[j]? = some t → args[j]? = some v → Value.okWide Tryz.prog W .any base t v := hval0
  have hW' := hW
  obtain ⟨p, q, hA0, hV, rfl, hfz, hnd⟩ := hW
  have hA : DataW.TrodAll enc Tryz.prog W 0 (fun _ => true) true Tryz.f6.params.toList args.toList ds p := hA0
  rw [Tryz.params6] at hA hval
  obtain ⟨v0, vs0, d0, ds0, p0, q0, hargs, rfl, rfl, h0, r0⟩ := trodAll_cons hA
  obtain ⟨v1, vs1, d1, ds1, p1, q1, rfl, rfl, rfl, h1, r1⟩ := trodAll_cons r0
  obtain ⟨v2, vs2, d2, ds2, p2, q2, rfl, rfl, rfl, h2, r2⟩ := trodAll_cons r1
  obtain ⟨rfl, rfl, rfl⟩ := trodAll_nil r2
  obtain rfl : args = #[v0, v1, v2] := by cases args; simp_all
  obtain ⟨rfl, rfl⟩ := trodVars_none hV
  clear hA0 hval0 hA
  have k0 := h0
  have lt0 : ∀ x ∈ p0, x.block < W.heap.size := by obtain ⟨m, hm⟩ := k0; exact DataW.trod_lt m _ _ _ hm
  obtain ⟨a0, rfl, rfl, rfl, w0⟩ := open_int Tryz.underlying25 (hval 0 25 v0 rfl rfl) h0
  have k1 := h1
  have lt1 : ∀ x ∈ p1, x.block < W.heap.size := by obtain ⟨m, hm⟩ := k1; exact DataW.trod_lt m _ _ _ hm
  obtain ⟨a1, rfl, rfl, rfl, w1⟩ := open_int Tryz.underlying25 (hval 1 25 v1 rfl rfl) h1
  have k2 := h2
  have lt2 : ∀ x ∈ p2, x.block < W.heap.size := by obtain ⟨m, hm⟩ := k2; exact DataW.trod_lt m _ _ _ hm
  obtain ⟨a2, rfl, rfl, rfl, w2⟩ := open_int Tryz.underlying3 (hval 2 3 v2 rfl rfl) h2
  refine (walk W (of_laid hL) a0 w0 a1 w1 a2 w2).mono fun e W' ⟨he, bel⟩ => ?_
  subst he
  exact ⟨_, rfl, _, _, _, [], _, [], hW', trodAll_mk1 (shut_bool Tryz.underlying4 _), (trodAll_cons_mk (Below.trod laidOut (by kernel_rfl) (of_decide_eq_true (by kernel_rfl)) k0 bel lt0) (trodAll_cons_mk (Below.trod laidOut (by kernel_rfl) (of_decide_eq_true (by kernel_rfl)) k1 bel lt1) (trodAll_cons_mk (Below.trod laidOut (by kernel_rfl) (of_decide_eq_true (by kernel_rfl)) k2 bel lt2) trodAll_mk0))), rfl, bel.frame _, fun h => by cases h⟩

theorem over : Rows.EncNamesSaid :=
  OpenClaim.holds_of_wide 6 Tryz.f6 rfl rfl rfl rfl rfl rfl rfl ⟨rfl, rfl, rfl, rfl, rfl⟩ rfl rfl rfl rfl rfl (by kernel_rfl) Tryz.func6 (by kernel_rfl)
    (of_decide_eq_true (by kernel_rfl)) (by unfold Func.isWrapper; first | (rw [if_pos (by decide +kernel)]; kernel_rfl) | (rw [if_neg (by decide +kernel)]; exact ⟨rfl, rfl⟩))
    (fun os started H enc _ => lifted os started H enc)

/-- The statement: the card, its listed variable tied to the program's text. -/
theorem proved : Rows.EncNamesCardSaid :=
  Claim7.holds_tied_plain_at .later [] [.data, .data, .data, .data, .data, .data] true (true, "82b3145cddd84957564239319662a7f032c6bc35cca285d7f35570caedf0bb32") false
    over (fun _ h => by cases h) (by kernel_rfl) (fun _ h => by cases h) encNames_row_tie rfl ⟨rfl, rfl⟩ (by kernel_rfl) rfl
    (fun f fn hf hfn => by
      obtain rfl : f = 6 := Option.some.inj ((show Tryz.prog.funcNamed "suzerain/suzerainlaw06.EncNames" = some 6 by kernel_rfl).symm.trans hf) |>.symm
      obtain rfl : fn = Tryz.f6 := (Option.some.inj (Tryz.func6.symm.trans hfn)).symm
      exact ⟨by kernel_rfl, fun j t ht => by
        rw [Tryz.params6] at ht
        have hm : t ∈ [25, 25, 3] := by simpa using Array.mem_of_getElem? ht
        have hall : ([25, 25, 3].all fun u => !Tryz.prog.wantsStandIn u) = true := by kernel_rfl
        exact (show Tryz.prog.wantsStandIn t = false by simpa using List.all_eq_true.1 hall t hm)⟩)
    (by kernel_rfl)
#print axioms proved

end Go.Proofs.YtpbeamnogfjagaaGreatDoor.encNames
