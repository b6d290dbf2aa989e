/-
  Proved: for any instruction, the law EncAll returns true: its word, or that it has none, its name and its text are the document's own. (Laid together: arguments by value; the rows' condition; the document's own Text; the law.)
  Conditions: none beyond the statement's own (its listed variables are tied to the program's text).
-/
import Derived.WalkKit
import Derived.ProofKit
import Derived.OpenShut
import Derived.Test.YtpbeamnogfjagaaGreatDoorRows
import Derived.Test.YtpbeamnogfjagaaGreatDoorEncM3
import Derived.Lib.LaidTab
import Derived.LaidMore
import Derived.Stop.Joined
import Derived.Stop.LaidErr
import Derived.Test.YtpbeamnogfjagaaGreatDoorEncRt1
import Derived.Test.YtpbeamnogfjagaaGreatDoorEncRt2
import Derived.Test.YtpbeamnogfjagaaGreatDoorEncRt3
import Derived.Test.YtpbeamnogfjagaaGreatDoorCards
import Derived.Test.YtpbeamnogfjagaaGreatDoorTie
import Derived.Lib.Hide
import Derived.SevenTiedAt
import Derived.Test.YtpbeamnogfjagaaGreatDoorEncRwM
section
namespace Go.Proofs.YtpbeamnogfjagaaGreatDoor.Op
open Go Go.ChangeShapes Go.WideShapes Go.ChangeAt Go.RowKit
section
variable {H : Type} {enc : TypeId × Value → H} {P : Program} {w : World} {r : Reach} {b0 base : Nat} {spare : Nat → Bool} {held : Bool} {t e : TypeId} {v : Value} {d : DataW H} {p : List MemPlace}

theorem okWide_array {n : Nat} (ht : P.underlying t = some (.array n e)) (h : Value.okWide P w r b0 t v) : ∃ cs, v = .agg cs ∧ cs.size = P.cellsOf t := by
  simp only [Value.okWide, ht] at h
  obtain ⟨cs, h1, h2, _⟩ := h
  exact ⟨cs, h1, h2⟩

/-- An array by value, of one-cell elements. -/
theorem open_arr {n : Nat} (ht : P.underlying t = some (.array n e)) (hC : P.cellsOf t = n) (hE : P.cellsOf e = 1) (hv : Value.okWide P w r b0 t v)
    (h : DataW.Trod enc P w base spare held t v d p) :
    ∃ vs : List Value, v = .agg vs.toArray ∧ vs.length = n ∧ ∀ i (hi : i < vs.length), ∃ y m, DataW.trod enc P w base spare held m e [vs[i]] = some y := by
  obtain ⟨cs, rfl, hsz⟩ := okWide_array ht hv
  obtain ⟨fuel, hf⟩ := h
  obtain ⟨xs, m, _, _, hl, hx, hi⟩ := DataW.trod_array ht hf
  have hcs : cs.toList.length = n := by simpa [hC] using hsz
  refine ⟨cs.toList, by simp, hcs, fun i h => ?_⟩
  have h1 := hi i (by omega)
  rw [hE] at h1
  have h2 : (cs.toList.drop (i * 1)).take 1 = [cs.toList[i]] := by
    rw [Nat.mul_one, List.drop_eq_getElem_cons h]; rfl
  have h3 : (Value.agg cs).cells.toList = cs.toList := rfl
  rw [h3, h2, List.getElem?_eq_getElem (by omega)] at h1
  exact ⟨_, m, h1⟩

theorem open_arr_int {n : Nat} {k : IntKind} (ht : P.underlying t = some (.array n e)) (he : P.underlying e = some (.int k)) (hC : P.cellsOf t = n) (hE : P.cellsOf e = 1) (hv : Value.okWide P w r b0 t v)
    (h : DataW.Trod enc P w base spare held t v d p) :
    ∃ xs : List Int, v = .agg (xs.map (Value.int k)).toArray ∧ xs.length = n ∧ ∀ x ∈ xs, (Lit.int k x).wf = true := by
  obtain ⟨vs, rfl, hl, hi⟩ := open_arr ht hC hE hv h
  clear h hv
  have key : ∀ (vs : List Value), (∀ i (hi : i < vs.length), ∃ y m, DataW.trod enc P w base spare held m e [vs[i]] = some y) →
      ∃ xs : List Int, vs = xs.map (Value.int k) ∧ ∀ x ∈ xs, (Lit.int k x).wf = true := by
    intro vs
    induction vs with
    | nil => intro _; exact ⟨[], rfl, by simp⟩
    | cons v0 vs ih =>
      intro hi
      obtain ⟨y, m, hy⟩ := hi 0 (by simp)
      obtain ⟨a, e0, _, wa⟩ := DataW.trod_int he hy
      obtain ⟨xs, hxs, hw⟩ := ih fun i h => hi (i + 1) (by simpa using h)
      simp at e0
      exact ⟨a :: xs, by simp [e0, hxs], by simpa using ⟨wa, hw⟩⟩
  obtain ⟨xs, hxs, hw⟩ := key vs hi
  exact ⟨xs, by rw [hxs], by rw [← hl, hxs]; simp, hw⟩

theorem open_arr_bool {n : Nat} (ht : P.underlying t = some (.array n e)) (he : P.underlying e = some .bool) (hC : P.cellsOf t = n) (hE : P.cellsOf e = 1) (hv : Value.okWide P w r b0 t v)
    (h : DataW.Trod enc P w base spare held t v d p) :
    ∃ xs : List Bool, v = .agg (xs.map Value.bool).toArray ∧ xs.length = n := by
  obtain ⟨vs, rfl, hl, hi⟩ := open_arr ht hC hE hv h
  clear h hv
  have key : ∀ (vs : List Value), (∀ i (hi : i < vs.length), ∃ y m, DataW.trod enc P w base spare held m e [vs[i]] = some y) →
      ∃ xs : List Bool, vs = xs.map Value.bool := by
    intro vs
    induction vs with
    | nil => intro _; exact ⟨[], rfl⟩
    | cons v0 vs ih =>
      intro hi
      obtain ⟨y, m, hy⟩ := hi 0 (by simp)
      obtain ⟨a, e0, _⟩ := DataW.trod_bool he hy
      obtain ⟨xs, hxs⟩ := ih fun i h => hi (i + 1) (by simpa using h)
      simp at e0
      exact ⟨a :: xs, by simp [e0, hxs]⟩
  obtain ⟨xs, hxs⟩ := key vs hi
  exact ⟨xs, by rw [hxs], by rw [← hl, hxs]; simp⟩

/-- A struct by value: its cells, and each field's reading. -/
theorem open_struct {fs : Array Field} (ht : P.underlying t = some (.struct fs)) (hv : Value.okWide P w r b0 t v) (h : DataW.Trod enc P w base spare held t v d p) :
    ∃ cs : List Value, v = .agg cs.toArray ∧ cs.length = P.cellsOf t ∧ ∃ m, ∀ (j : Nat) (f : Field), fs[j]? = some f →
      ∃ y, DataW.trod enc P w base spare held m f.type ((cs.drop f.offset).take (P.cellsOf f.type)) = some y := by
  obtain ⟨cs, rfl, hsz⟩ := okWide_struct ht hv
  obtain ⟨fuel, hf⟩ := h
  obtain ⟨ys, n', _, _, _, hyl, hj⟩ := DataW.trod_struct ht hf
  refine ⟨cs.toList, by simp, by simpa using hsz, n', fun j f hjf => ?_⟩
  have h1 := hj j f hjf
  have h3 : (Value.agg cs).cells.toList = cs.toList := rfl
  have hjl : j < fs.size := (Array.getElem?_eq_some_iff.1 hjf).1
  rw [h3, List.getElem?_eq_getElem (by omega)] at h1
  exact ⟨_, h1⟩
end
end Go.Proofs.YtpbeamnogfjagaaGreatDoor.Op
end

section
namespace Go.Proofs.YtpbeamnogfjagaaGreatDoor
open Go Go.RowKit D E

/-- An array of texts that reads as the table holds the table's texts, cell for cell. -/
theorem cells_of_txt {H : Type} {enc : TypeId × Value → H} {P : Program} {w : World} {base : Nat} {sp : Nat → Bool} {held : Bool} {fuel : Nat} {t e : TypeId} {n : Nat} {cs : List Value} {zs : List Bytes} {p : List MemPlace}
    (ht : P.underlying t = some (.array n e)) (he : P.underlying e = some .string) (hce : P.cellsOf e = 1) (hct : P.cellsOf t = n)
    (h : DataW.trod enc P w base sp held fuel t cs = some (.agg (zs.map fun z => .lit (.string z)), p)) : cs = zs.map fun z => Value.string (txt z) := by
  cases fuel with
  | zero => simp [DataW.trod] at h
  | succ fuel =>
    simp only [DataW.trod, ht, hce, hct, Nat.mul_one] at h
    split at h
    · rename_i hl
      obtain ⟨xs, hm, hx⟩ := Option.map_eq_some_iff.1 h
      have hxs : xs.map (·.1) = zs.map fun z => (DataW.lit (.string z) : DataW H) := by
        have := congrArg Prod.fst hx
        simpa using this
      have hxl : xs.length = n := by simpa using Lib.mapM_length hm
      have hzl : zs.length = n := by
        have := congrArg List.length hxs
        simp at this
        omega
      apply List.ext_getElem?
      intro i
      by_cases hi : i < n
      · obtain ⟨b, hb, hf⟩ := Lib.mapM_at hm i i (by simp [hi])
        obtain ⟨s, hc, rfl, _⟩ := DataW.trod_string he hf
        have h1 : cs[i]? = some (.string s) := by
          have := congrArg (·[0]?) hc
          simpa [List.getElem?_take, List.getElem?_drop] using this
        have h2 : (xs.map (·.1))[i]? = some (DataW.lit (.string s.data.toList) : DataW H) := by simp [hb]
        rw [hxs] at h2
        simp only [List.getElem?_map, Option.map_eq_some_iff, DataW.lit.injEq, Lit.string.injEq] at h2
        obtain ⟨z', hz', hs⟩ := h2
        have hs' : s = txt z' := by
          rw [hs]
          apply ByteArray.ext
          simp [txt]
        simp [h1, hz', hs']
      · rw [List.getElem?_eq_none (by omega), List.getElem?_eq_none (by simp; omega)]
    · cases h
theorem txts_of_head {P : Program} {W : World} {name : String} {zs : List Bytes} {rest : List (String × DataW Unit)} {g : Nat} {t e : TypeId} {n : Nat}
    (hg : P.globalNamed name = some g) (hty : (P.globals[g]?).map (·.type) = some t) (ht : P.underlying t = some (.array n e)) (he : P.underlying e = some .string) (hce : P.cellsOf e = 1) (hct : P.cellsOf t = n)
    (h : laidMet P ((name, .agg (zs.map fun z => .lit (.string z))) :: rest) W) (i : Nat) (hi : i < zs.length) : W.cell? ⟨g, i, none⟩ = some (.string (txt (zs.getD i []))) := by
  obtain ⟨ps, ⟨g', t', cs, fuel, p, q, hg', ht', hvar, hd, _, _⟩, _⟩ := h
  obtain rfl := Option.some.inj (hg.symm.trans hg')
  obtain rfl := Option.some.inj (hty.symm.trans ht')
  have hc := cells_of_txt ht he hce hct hd
  have := World.var?_cell hg hvar i
  rw [this, ← Array.getElem?_toList, hc, List.getElem?_map, List.getD_eq_getElem?_getD, List.getElem?_eq_getElem hi]
  rfl

def laidL : List (String × DataW Unit) := [("math/bits.deBruijn32tab", Rows.laid_math_bits_deBruijn32tab), ("math/bits.deBruijn64tab", Rows.laid_math_bits_deBruijn64tab), ("internal/strconv.uint64pow10", Rows.laid_internal_strconv_uint64pow10), ("suzerain/decode.lastOf", Rows.laid_suzerain_decode_lastOf), ("suzerain/enc.names", Rows.laid_suzerain_enc_names), ("suzerain/enc.atomicNames", Rows.laid_suzerain_enc_atomicNames)]
theorem gTab : Tryz.prog.globalNamed "suzerain/decode.lastOf" = some 2 := by kernel_rfl
theorem tTab : (Tryz.prog.globals[2]?).map (·.type) = some 88 := by kernel_rfl
theorem gNam : Tryz.prog.globalNamed "suzerain/enc.names" = some 0 := by kernel_rfl
theorem tNam : (Tryz.prog.globals[0]?).map (·.type) = some 43 := by kernel_rfl
theorem gAto : Tryz.prog.globalNamed "suzerain/enc.atomicNames" = some 1 := by kernel_rfl
theorem tAto : (Tryz.prog.globals[1]?).map (·.type) = some 44 := by kernel_rfl
theorem gPow : Tryz.prog.globalNamed "internal/strconv.uint64pow10" = some 3 := by kernel_rfl
theorem tPow : (Tryz.prog.globals[3]?).map (·.type) = some 107 := by kernel_rfl
theorem door_met (os : Os) (args : Array Value) : laidMetH Tryz.prog laidL ((World.doorLaid Tryz.prog 400 os).forCall (fun _ _ => 0) ⟨#[], args, []⟩).memory :=
  laidMetH_of_parts3 (fuel := 8) (laidMet_of_run' 8 (by kernel_rfl) (by kernel_rfl)) (by kernel_rfl) (by kernel_rfl)
theorem of_laid {W : World} (h : laidMetH Tryz.prog laidL W) : Tabs W := by
  rw [MakeChecks.laidMetH_plain _ _ _ (by kernel_rfl)] at h
  refine ⟨?_, ⟨?_, ?_⟩, ?_⟩
  · have hT := Lib.tabIs_of_head (k := .i64) (zs := lasts) gTab tTab Tryz.underlying88 Tryz.underlying3 (by kernel_rfl) (by kernel_rfl) h.tail.tail.tail
    intro i hi
    exact hT.cell gTab i hi
  · exact txts_of_head (zs := namL) gNam tNam Tryz.underlying43 Tryz.underlying9 (by kernel_rfl) (by kernel_rfl) h.tail.tail.tail.tail
  · exact txts_of_head (zs := atoL) gAto tAto Tryz.underlying44 Tryz.underlying9 (by kernel_rfl) (by kernel_rfl) h.tail.tail.tail.tail.tail
  · have e : (Rows.laid_internal_strconv_uint64pow10 : DataW Unit) = Lib.tabData .u64 Lib.pow10Tab := by kernel_rfl
    have h3 := h.tail.tail
    exact Lib.tabIs_of_head (k := .u64) (zs := Lib.pow10Tab) gPow tPow Tryz.underlying107 Tryz.underlying57 (by kernel_rfl) (by kernel_rfl) (by rw [← e]; exact h3)
end Go.Proofs.YtpbeamnogfjagaaGreatDoor
end

section
namespace Go.Proofs.YtpbeamnogfjagaaGreatDoor.refEnc
open Go Go.RowKit F W M D E refWord
set_option linter.unusedVariables false
set_option maxRecDepth 100000
theorem rText_c (o rd rs1 rs2 im n : Int) (ho : I64 o) (h1 : I64 rd) (h2 : I64 rs1) (h3 : I64 rs2) (hi : I64 im) (w : World) (hT : Tabs w) :
    Calls Tryz.prog 14 #[E.six o rd rs1 rs2 im n] w fun e w' => e = .returned (.string (txt (textV o rd rs1 rs2 im))) ∧ w.grownBy w' none := by
  rcases (show (o ≤ 0) ∨ (o = 1) ∨ (o = 2) ∨ (o = 3) ∨ (o = 4) ∨ (5 ≤ o ∧ o ≤ 10) ∨ (11 ≤ o ∧ o ≤ 17) ∨ (18 ≤ o ∧ o ≤ 21) ∨ (22 ≤ o ∧ o ≤ 30) ∨ (31 ≤ o ∧ o ≤ 40) ∨ (41 ≤ o ∧ o ≤ 44) ∨ (45 ≤ o ∧ o ≤ 49) ∨ (50 ≤ o ∧ o ≤ 57) ∨ (58 ≤ o ∧ o ≤ 62) ∨ (63 ≤ o ∧ o ≤ 69) ∨ (70 ≤ o ∧ o ≤ 75) ∨ (76 ≤ o ∧ o ≤ 86) ∨ (87 ≤ o ∧ o ≤ 97) ∨ (97 < o) by omega) with k | k | k | k | k | k | k | k | k | k | k | k | k | k | k | k | k | k | k
  · exact text0 o rd rs1 rs2 im n ho h1 h2 h3 hi k w hT
  · exact text1 o rd rs1 rs2 im n ho h1 h2 h3 hi k w hT
  · exact text2 o rd rs1 rs2 im n ho h1 h2 h3 hi k w hT
  · exact text3 o rd rs1 rs2 im n ho h1 h2 h3 hi k w hT
  · exact text4 o rd rs1 rs2 im n ho h1 h2 h3 hi k w hT
  · exact text5 o rd rs1 rs2 im n ho h1 h2 h3 hi k w hT
  · exact text6 o rd rs1 rs2 im n ho h1 h2 h3 hi k w hT
  · exact text7 o rd rs1 rs2 im n ho h1 h2 h3 hi k w hT
  · exact text8 o rd rs1 rs2 im n ho h1 h2 h3 hi k w hT
  · exact text9 o rd rs1 rs2 im n ho h1 h2 h3 hi k w hT
  · exact text10 o rd rs1 rs2 im n ho h1 h2 h3 hi k w hT
  · exact text11 o rd rs1 rs2 im n ho h1 h2 h3 hi k w hT
  · exact text12 o rd rs1 rs2 im n ho h1 h2 h3 hi k w hT
  · exact text13 o rd rs1 rs2 im n ho h1 h2 h3 hi k w hT
  · exact text14 o rd rs1 rs2 im n ho h1 h2 h3 hi k w hT
  · exact text15 o rd rs1 rs2 im n ho h1 h2 h3 hi k w hT
  · exact text16 o rd rs1 rs2 im n ho h1 h2 h3 hi k w hT
  · exact text17 o rd rs1 rs2 im n ho h1 h2 h3 hi k w hT
  · exact text18 o rd rs1 rs2 im n ho h1 h2 h3 hi k w hT
end Go.Proofs.YtpbeamnogfjagaaGreatDoor.refEnc
end

section
namespace Go.Proofs.YtpbeamnogfjagaaGreatDoor.encAll
open Go Go.ChangeShapes Go.WideShapes Go.ChangeAt Go.RowKit F W M D E refEnc
set_option linter.unusedVariables false

set_option maxRecDepth 100000 in
set_option maxHeartbeats 8000000 in
theorem way (o rd rs1 rs2 im n : Int) (h0 : I64 o) (h1 : I64 rd) (h2 : I64 rs1) (h3 : I64 rs2) (hi : I64 im) (w : World) (hL : Tabs w) :
    Calls Tryz.prog 3 #[.agg #[.int .i64 o, .int .i64 rd, .int .i64 rs1, .int .i64 rs2, .int .i64 im, .int .i64 n]] w fun e w' => e = .returned (.bool true) ∧ Below w.heap.size w w' := by
  have HW := Lib.hid (fun W (h : Tabs W) => Word_e o rd rs1 rs2 im n h0 h1 h2 h3 hi W h.1)
  have HV := Lib.hid (fun W h => rWordE_c o rd rs1 rs2 im n h0 hi W h)
  have HN := Lib.hid (fun W (h : Tabs W) => (show Calls Tryz.prog 11 #[.int .i64 o] W fun e w' => e = .returned (.string (txt (nameV o))) ∧ W.grownBy w' none from (Name_c o h0 W h.2.1).mono fun _ _ ⟨he, hw⟩ => ⟨he, by rw [← hw]; exact gr_refl _ _⟩))
  have HM := Lib.hid (fun W => rName_c o h0 W)
  have HX := Lib.hid (fun W h => (Text_c o rd rs1 rs2 im n h0 h1 h2 h3 hi W h).mono fun _ _ ⟨he, hb⟩ => (show _ = Ending.returned (.string (txt (textV o rd rs1 rs2 im))) ∧ W.grownBy _ none from ⟨he, gr_of_below hb⟩))
  have HY := Lib.hid (fun W h => rText_c o rd rs1 rs2 im n h0 h1 h2 h3 hi W h)
  generalize wordE o rd rs1 rs2 im n = v at *
  generalize okE o rd rs1 rs2 im n = ok at *
  generalize txt (nameV o) = t0 at *
  generalize txt (textV o rd rs1 rs2 im) = t1 at *
  have hS := heldT_new w hL o rd rs1 rs2 im n
  have HS := Lib.hid hS
  clear hS hL
  go_enter Tryz.func3, Tryz.ntmps3
  go_wp2_with fail
  refine (shown06_c _ HS.out.tabs).mono ?_
  rintro e w1 ⟨rfl, hG1⟩
  have HS1 := Lib.hid (HS.out.on hG1)
  clear hG1 HS
  obtain ⟨c0, c1, c2, c3, c4, c5, _, _, _⟩ := HS1.out
  go_wp2_with fail
  refine (HW.out _ HS1.out.tabs).mono ?_
  rintro e w2 ⟨rfl, hG2⟩
  have HS2 := Lib.hid (HS1.out.on hG2)
  clear c0 c1 c2 c3 c4 c5 hG2 HS1
  obtain ⟨c0, c1, c2, c3, c4, c5, _, _, _⟩ := HS2.out
  go_wp2_with fail
  refine (HV.out _ HS2.out.tabs).mono ?_
  rintro e w3 ⟨rfl, hG3⟩
  have hS0 := HS2.out.on hG3
  clear c0 c1 c2 c3 c4 c5 hG3 HS2
  unfold HeldT at hS0
  generalize w.heap.size = b at *
  go_wp2_with fail
  go_region_held3 (fun w' => w'.cell? ⟨b, 0, none⟩ = some (.int .i64 o) ∧ w'.cell? ⟨b, 1, none⟩ = some (.int .i64 rd) ∧ w'.cell? ⟨b, 2, none⟩ = some (.int .i64 rs1) ∧ w'.cell? ⟨b, 3, none⟩ = some (.int .i64 rs2) ∧ w'.cell? ⟨b, 4, none⟩ = some (.int .i64 im) ∧ w'.cell? ⟨b, 5, none⟩ = some (.int .i64 n) ∧ Row w' b 23 [.int .i64 o, .int .i64 rd, .int .i64 rs1, .int .i64 rs2, .int .i64 im, .int .i64 n] ∧ Tabs w' ∧ w.grownBy w' none)
    (first | assumption | (exact HeldT.on (gr_drew (gr_refl _ none)) (by assumption)) | (exact HeldT.on (by assumption) (by assumption)))
    (first
      | (go_at_call 11; refine (HN.out _ (HeldT.tabs (by assumption))).mono ?_; rintro e w' ⟨rfl, hg⟩)
      | (go_at_call 12; refine (HM.out _).mono ?_; rintro e w' ⟨rfl, hg⟩)
      | (go_at_call 13; refine (HX.out _ (HeldT.tabs (by assumption))).mono ?_; rintro e w' ⟨rfl, hg⟩)
      | (go_at_call 14; refine (HY.out _ (HeldT.tabs (by assumption))).mono ?_; rintro e w' ⟨rfl, hg⟩))
  all_goals
    rename_i hHeld
    have hBe := HeldT.gr hHeld
    clear hHeld
    go_wp2_with fail
    go_ret
    exact ⟨rfl, gr_below hBe⟩
theorem walk (w : World) (hL : Tabs w) (a0_0 : Int) (w0_0 : (Lit.int .i64 a0_0).wf = true) (a0_1 : Int) (w0_1 : (Lit.int .i64 a0_1).wf = true) (a0_2 : Int) (w0_2 : (Lit.int .i64 a0_2).wf = true) (a0_3 : Int) (w0_3 : (Lit.int .i64 a0_3).wf = true) (a0_4 : Int) (w0_4 : (Lit.int .i64 a0_4).wf = true) (a0_5 : Int) (w0_5 : (Lit.int .i64 a0_5).wf = true) :
    Calls Tryz.prog 3 #[.agg #[.int .i64 a0_0, .int .i64 a0_1, .int .i64 a0_2, .int .i64 a0_3, .int .i64 a0_4, .int .i64 a0_5]] w fun e w' => e = .returned (.bool true) ∧ Below w.heap.size w w' := by
  exact way _ _ _ _ _ _ (bounds_i64 w0_0) (bounds_i64 w0_1) (bounds_i64 w0_2) (bounds_i64 w0_3) (bounds_i64 w0_4) w hL

theorem own : ownKnob Tryz.prog.godebug = none := by kernel_rfl
theorem laidOut : laidOutB Tryz.prog = true := by kernel_rfl

set_option maxRecDepth 100000 in
theorem lifted (os : Os) (started : os.Started) (H : Type) (enc : TypeId × Value → H) :
    ReturnsInHanded {} Tryz.checked os 3 .any (fun w args => (Rows.encAllSpec.pre enc Tryz.prog Tryz.f3 [] false w args ∧ laidMetH Tryz.prog laidL w) ∧ sizedMet enc Tryz.prog Tryz.f3 (OpenSpec.ofChange Rows.encAllSpec) false w args)
      (Rows.encAllSpec.post enc Tryz.prog Tryz.f3 false true false false) := by
  refine returnsInHanded_of_change_and (C := Tryz.checked) (X := fun w _ => laidMetH Tryz.prog laidL w) (fun _ _ _ hh h => h.of_heap hh) own started (by kernel_rfl) Tryz.func3
    (ChangeSpec.witness_shaped (enc := enc) (C := Tryz.checked) (os := os) (X := fun w _ => laidMetH Tryz.prog laidL w) false (World.doorLaid Tryz.prog 400 os) #[.agg #[.int .i64 0, .int .i64 0, .int .i64 0, .int .i64 0, .int .i64 0, .int .i64 0]] 8 rfl (World.shaped_of_RefB (by kernel_rfl) (by kernel_rfl)) (by kernel_rfl) (by kernel_rfl) (by kernel_rfl) (door_met os _)) ?_
  intro W base args ds gs before hval0 hW _ _ hL _
  have hval : ∀ (j : Nat) t v, Tryz.f3.params[j]? = some t → args[j]? = some v → Value.okWide Tryz.prog W .any base t v := hval0
  have hW' := hW
  obtain ⟨p, q, hA0, hV, rfl, hfz, hnd⟩ := hW
  have hA : DataW.TrodAll enc Tryz.prog W 0 (fun _ => true) true Tryz.f3.params.toList args.toList ds p := hA0
  rw [Tryz.params3] at hA hval
  obtain ⟨v0, vs0, d0, ds0, p0, q0, hargs, rfl, rfl, h0, r0⟩ := trodAll_cons hA
  obtain ⟨rfl, rfl, rfl⟩ := trodAll_nil r0
  obtain rfl : args = #[v0] := by cases args; simp_all
  obtain ⟨rfl, rfl⟩ := trodVars_none hV
  clear hA0 hval0 hA
  have k0 := h0
  have lt0 : ∀ x ∈ p0, x.block < W.heap.size := by obtain ⟨m, hm⟩ := k0; exact DataW.trod_lt m _ _ _ hm
  obtain ⟨xs0, rfl, l0, m0, f0⟩ := Op.open_struct Tryz.underlying23 (hval 0 23 v0 rfl rfl) h0
  rw [show Tryz.prog.cellsOf 23 = 6 from by kernel_rfl] at l0
  obtain _ | ⟨c0_0, xs0⟩ := xs0
  · simp at l0
  obtain _ | ⟨c0_1, xs0⟩ := xs0
  · simp at l0
  obtain _ | ⟨c0_2, xs0⟩ := xs0
  · simp at l0
  obtain _ | ⟨c0_3, xs0⟩ := xs0
  · simp at l0
  obtain _ | ⟨c0_4, xs0⟩ := xs0
  · simp at l0
  obtain _ | ⟨c0_5, xs0⟩ := xs0
  · simp at l0
  obtain _ | ⟨_, _⟩ := xs0
  rotate_left
  · simp at l0
  clear h0
  obtain ⟨y0_0, g0_0⟩ := f0 0 _ rfl
  replace g0_0 : DataW.trod enc Tryz.prog W 0 (fun _ => true) true m0 3 [c0_0] = some y0_0 := g0_0
  obtain ⟨a0_0, e0_0, _, w0_0⟩ := DataW.trod_int Tryz.underlying3 g0_0
  simp at e0_0; subst e0_0
  obtain ⟨y0_1, g0_1⟩ := f0 1 _ rfl
  replace g0_1 : DataW.trod enc Tryz.prog W 0 (fun _ => true) true m0 3 [c0_1] = some y0_1 := g0_1
  obtain ⟨a0_1, e0_1, _, w0_1⟩ := DataW.trod_int Tryz.underlying3 g0_1
  simp at e0_1; subst e0_1
  obtain ⟨y0_2, g0_2⟩ := f0 2 _ rfl
  replace g0_2 : DataW.trod enc Tryz.prog W 0 (fun _ => true) true m0 3 [c0_2] = some y0_2 := g0_2
  obtain ⟨a0_2, e0_2, _, w0_2⟩ := DataW.trod_int Tryz.underlying3 g0_2
  simp at e0_2; subst e0_2
  obtain ⟨y0_3, g0_3⟩ := f0 3 _ rfl
  replace g0_3 : DataW.trod enc Tryz.prog W 0 (fun _ => true) true m0 3 [c0_3] = some y0_3 := g0_3
  obtain ⟨a0_3, e0_3, _, w0_3⟩ := DataW.trod_int Tryz.underlying3 g0_3
  simp at e0_3; subst e0_3
  obtain ⟨y0_4, g0_4⟩ := f0 4 _ rfl
  replace g0_4 : DataW.trod enc Tryz.prog W 0 (fun _ => true) true m0 2 [c0_4] = some y0_4 := g0_4
  obtain ⟨a0_4, e0_4, _, w0_4⟩ := DataW.trod_int Tryz.underlying2 g0_4
  simp at e0_4; subst e0_4
  obtain ⟨y0_5, g0_5⟩ := f0 5 _ rfl
  replace g0_5 : DataW.trod enc Tryz.prog W 0 (fun _ => true) true m0 3 [c0_5] = some y0_5 := g0_5
  obtain ⟨a0_5, e0_5, _, w0_5⟩ := DataW.trod_int Tryz.underlying3 g0_5
  simp at e0_5; subst e0_5
  refine (walk W (of_laid hL) a0_0 w0_0 a0_1 w0_1 a0_2 w0_2 a0_3 w0_3 a0_4 w0_4 a0_5 w0_5).mono fun e W' ⟨he, bel⟩ => ?_
  subst he
  exact ⟨_, rfl, _, _, _, [], _, [], hW', trodAll_mk1 (shut_bool Tryz.underlying4 _), (trodAll_cons_mk (Below.trod laidOut (by kernel_rfl) (of_decide_eq_true (by kernel_rfl)) k0 bel lt0) trodAll_mk0), rfl, bel.frame _, fun h => by cases h⟩

theorem over : Rows.EncAllSaid :=
  OpenClaim.holds_of_wide 3 Tryz.f3 rfl rfl rfl rfl rfl rfl rfl ⟨rfl, rfl, rfl, rfl, rfl⟩ rfl rfl rfl rfl rfl (by kernel_rfl) Tryz.func3 (by kernel_rfl)
    (of_decide_eq_true (by kernel_rfl)) (by unfold Func.isWrapper; first | (rw [if_pos (by decide +kernel)]; kernel_rfl) | (rw [if_neg (by decide +kernel)]; exact ⟨rfl, rfl⟩))
    (fun os started H enc _ => lifted os started H enc)

/-- The statement: the card, its listed variable tied to the program's text. -/
theorem proved : Rows.EncAllCardSaid :=
  Claim7.holds_tied_plain_at .later [] [.data, .data, .data, .data, .data, .data] true (true, "82b3145cddd84957564239319662a7f032c6bc35cca285d7f35570caedf0bb32") false
    over (fun _ h => by cases h) (by kernel_rfl) (fun _ h => by cases h) encAll_row_tie rfl ⟨rfl, rfl⟩ (by kernel_rfl) rfl
    (fun f fn hf hfn => by
      obtain rfl : f = 3 := Option.some.inj ((show Tryz.prog.funcNamed "suzerain/suzerainlaw06.EncAll" = some 3 by kernel_rfl).symm.trans hf) |>.symm
      obtain rfl : fn = Tryz.f3 := (Option.some.inj (Tryz.func3.symm.trans hfn)).symm
      exact ⟨by kernel_rfl, fun j t ht => by
        rw [Tryz.params3] at ht
        have hm : t ∈ [23] := by simpa using Array.mem_of_getElem? ht
        have hall : ([23].all fun u => !Tryz.prog.wantsStandIn u) = true := by kernel_rfl
        exact (show Tryz.prog.wantsStandIn t = false by simpa using List.all_eq_true.1 hall t hm)⟩)
    (by kernel_rfl)
#print axioms proved

end Go.Proofs.YtpbeamnogfjagaaGreatDoor.encAll
end
