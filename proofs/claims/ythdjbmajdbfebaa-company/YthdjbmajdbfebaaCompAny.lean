/-
  Proved: for any word, and any other higher half, the law CompAny returns true: a word whose two lowest bits are both 1 is the instruction of a whole word; of another one its higher half does not matter.
  Conditions: none beyond the statement's own.
-/
import Derived.Test.YthdjbmajdbfebaaRows
import Derived.Test.YthdjbmajdbfebaaOpen
import Derived.Lib.Hide
import Derived.Test.YthdjbmajdbfebaaCompI
import Derived.Test.YthdjbmajdbfebaaDecWR
import Derived.Deep.RegionHeld3
namespace Go.Proofs.Ythdjbmajdbfebaa.compAny
open Go Go.ChangeShapes Go.WideShapes Go.ChangeAt Go.RowKit F W M D refWord
set_option linter.unusedVariables false

/-- The instruction stands in block b. -/
def Held (w0 : World) (b : Nat) (o rd rs1 rs2 im n : Int) (w : World) : Prop :=
  w.cell? ⟨b, 0, none⟩ = some (.int .i64 o) ∧ w.cell? ⟨b, 1, none⟩ = some (.int .i64 rd) ∧ w.cell? ⟨b, 2, none⟩ = some (.int .i64 rs1) ∧ w.cell? ⟨b, 3, none⟩ = some (.int .i64 rs2) ∧ w.cell? ⟨b, 4, none⟩ = some (.int .i64 im) ∧ w.cell? ⟨b, 5, none⟩ = some (.int .i64 n) ∧
  Row w b 25 [.int .i64 o, .int .i64 rd, .int .i64 rs1, .int .i64 rs2, .int .i64 im, .int .i64 n] ∧ Below w0.heap.size w0 w
theorem held_of {w0 w : World} {b : Nat} {o rd rs1 rs2 im n : Int} (h : Row w b 25 [.int .i64 o, .int .i64 rd, .int .i64 rs1, .int .i64 rs2, .int .i64 im, .int .i64 n]) (hb : Below w0.heap.size w0 w) : Held w0 b o rd rs1 rs2 im n w :=
  ⟨h.cell 0, h.cell 1, h.cell 2, h.cell 3, h.cell 4, h.cell 5, h, hb⟩
theorem Held.on {w0 w w' : World} {b : Nat} {o rd rs1 rs2 im n : Int} (hg : w.grownBy w' none) (h : Held w0 b o rd rs1 rs2 im n w) : Held w0 b o rd rs1 rs2 im n w' :=
  held_of (h.2.2.2.2.2.2.1.grown hg (by simp)) (h.2.2.2.2.2.2.2.trans ((gr_below hg).mono (by have := h.2.2.2.2.2.2.2.size; exact this)))
theorem rWord_at {x : Nat} {o rd rs1 rs2 im : Int} (hx : x < 4294967296) (h : D.wordV x = (o, rd, rs1, rs2, im)) (w : World) :
    Calls Try.prog 10 #[.int .u32 x] w fun e w' => e = .returned (.agg #[.int .i64 o, .int .i64 rd, .int .i64 rs1, .int .i64 rs2, .int .i64 im, .int .i64 4]) ∧ w.grownBy w' none := by
  have := rWord_c x hx w
  rw [h] at this
  exact this
set_option maxRecDepth 100000 in
set_option maxHeartbeats 4000000 in
theorem way_word (x : Nat) (hx : x < 4294967296) (h3 : x % 4 = 3) (hi : Int) (o rd rs1 rs2 im : Int) (hV : D.wordV x = (o, rd, rs1, rs2, im)) (w : World) :
    Calls Try.prog 4 #[.int .u32 x, .int .u16 hi] w fun e w' => e = .returned (.bool true) ∧ Below w.heap.size w w' := by
  have HA := Lib.hid (fun W => Any_word hx h3 hV W)
  have HW := Lib.hid (fun W => rWord_at hx hV W)
  have q3 : ((x : Int) % 4 == 3) = true := by simp; omega
  clear hV
  go_enter Try.func4, Try.ntmps4
  go_wp2_with fail
  refine (shown05_c _).mono ?_
  rintro e w1 ⟨rfl, hG1⟩
  go_wp2_with fail
  refine (HA.out _).mono ?_
  rintro e w2 ⟨rfl, hG2⟩
  have hS0 : Held w w2.heap.size o rd rs1 rs2 im 4 (w2.alloc (.cells #[.int .i64 o, .int .i64 rd, .int .i64 rs1, .int .i64 rs2, .int .i64 im, .int .i64 4] 25)) :=
    held_of (Row.fresh w2 _ _) (gr_below (gr_alloc (gr_trans hG1 hG2) _))
  unfold Held at hS0
  clear hG1 hG2
  go_wp2_with fail
  generalize w2.alloc (.cells #[.int .i64 o, .int .i64 rd, .int .i64 rs1, .int .i64 rs2, .int .i64 im, .int .i64 4] 25) = W at *
  generalize w2.heap.size = b at *
  go_region_held3 (fun w' => w'.cell? ⟨b, 0, none⟩ = some (.int .i64 o) ∧ w'.cell? ⟨b, 1, none⟩ = some (.int .i64 rd) ∧ w'.cell? ⟨b, 2, none⟩ = some (.int .i64 rs1) ∧ w'.cell? ⟨b, 3, none⟩ = some (.int .i64 rs2) ∧ w'.cell? ⟨b, 4, none⟩ = some (.int .i64 im) ∧ w'.cell? ⟨b, 5, none⟩ = some (.int .i64 4) ∧ Row w' b 25 [.int .i64 o, .int .i64 rd, .int .i64 rs1, .int .i64 rs2, .int .i64 im, .int .i64 4] ∧ Below w.heap.size w w')
    (first | assumption | (exact Held.on (gr_drew (gr_refl _ none)) (by assumption)) | (exact Held.on (by assumption) (by assumption)))
    ((go_at_call 10; refine (HW.out _).mono ?_; rintro e w' ⟨rfl, hg⟩))
  rename_i hHeld
  have hBe := hHeld.2.2.2.2.2.2.2
  clear hHeld
  go_wp2_with fail
  go_ret
  exact ⟨rfl, hBe⟩
/-- Another higher half. -/
theorem other_high (x hi : Nat) (hx : x < 4294967296) (hh : hi < 65536) :
    bits .or .u32 ((x : Int).tmod 65536) (IntKind.u32.wrap (IntKind.u32.wrap (hi : Int) * 65536)) = ((hi * 65536 + x % 65536 : Nat) : Int) := by
  have e1 : (x : Int).tmod 65536 = ((x % 65536 : Nat) : Int) := by
    rw [Int.tmod_eq_emod_of_nonneg (by omega)]; omega
  have e2 : IntKind.u32.wrap (hi : Int) = (hi : Int) := by rw [IntKind.wrap_u32']; omega
  have h1 := (or_up32 (x % 65536) hi 16 16 (by omega) (by simpa using hh) (by decide)).1
  rw [show (2 : Int) ^ 16 = 65536 from rfl] at h1
  rw [e1, e2, h1, Nat.or_comm, ← Nat.shiftLeft_add_eq_or_of_lt (show x % 65536 < 2 ^ 16 by omega), Nat.shiftLeft_eq]
set_option maxRecDepth 100000 in
set_option maxHeartbeats 4000000 in
theorem way_half (x : Nat) (hx : x < 4294967296) (h3 : x % 4 ≠ 3) (hi : Nat) (hh : hi < 65536) (o rd rs1 rs2 im : Int) (hV : halfV (x % 65536) = (o, rd, rs1, rs2, im)) (w : World) :
    Calls Try.prog 4 #[.int .u32 x, .int .u16 hi] w fun e w' => e = .returned (.bool true) ∧ Below w.heap.size w w' := by
  have HA := Lib.hid (fun W => Any_half hx h3 hV W)
  have HH := Lib.hid (fun W => Half_at (show x % 65536 < 65536 by omega) hV W)
  rw [← u16_of x] at HH
  have HB := Lib.hid (fun W => Any_half (x := hi * 65536 + x % 65536) (by omega) (by omega) (show halfV ((hi * 65536 + x % 65536) % 65536) = (o, rd, rs1, rs2, im) by rw [show (hi * 65536 + x % 65536) % 65536 = x % 65536 by omega]; exact hV) W)
  rw [← other_high x hi hx hh] at HB
  have q3 : ((x : Int) % 4 == 3) = false := by simp; omega
  clear hV
  go_enter Try.func4, Try.ntmps4
  go_wp2_with fail
  refine (shown05_c _).mono ?_
  rintro e w1 ⟨rfl, hG1⟩
  go_wp2_with fail
  refine (HA.out _).mono ?_
  rintro e w2 ⟨rfl, hG2⟩
  have hS0 : Held w w2.heap.size o rd rs1 rs2 im 2 (w2.alloc (.cells #[.int .i64 o, .int .i64 rd, .int .i64 rs1, .int .i64 rs2, .int .i64 im, .int .i64 2] 25)) :=
    held_of (Row.fresh w2 _ _) (gr_below (gr_alloc (gr_trans hG1 hG2) _))
  unfold Held at hS0
  clear hG1 hG2
  go_wp2_with fail
  generalize w2.alloc (.cells #[.int .i64 o, .int .i64 rd, .int .i64 rs1, .int .i64 rs2, .int .i64 im, .int .i64 2] 25) = W at *
  generalize w2.heap.size = b at *
  go_region_held3 (fun w' => w'.cell? ⟨b, 0, none⟩ = some (.int .i64 o) ∧ w'.cell? ⟨b, 1, none⟩ = some (.int .i64 rd) ∧ w'.cell? ⟨b, 2, none⟩ = some (.int .i64 rs1) ∧ w'.cell? ⟨b, 3, none⟩ = some (.int .i64 rs2) ∧ w'.cell? ⟨b, 4, none⟩ = some (.int .i64 im) ∧ w'.cell? ⟨b, 5, none⟩ = some (.int .i64 2) ∧ Row w' b 25 [.int .i64 o, .int .i64 rd, .int .i64 rs1, .int .i64 rs2, .int .i64 im, .int .i64 2] ∧ Below w.heap.size w w')
    (first | assumption | (exact Held.on (gr_drew (gr_refl _ none)) (by assumption)) | (exact Held.on (by assumption) (by assumption)))
    (first
      | (go_at_call 7; refine (HH.out _).mono ?_; rintro e w' ⟨rfl, hg⟩)
      | (go_at_call 9; refine (HB.out _).mono ?_; rintro e w' ⟨rfl, hg⟩))
  rename_i hHeld
  have hBe := hHeld.2.2.2.2.2.2.2
  clear hHeld
  go_wp2_with fail
  go_ret
  exact ⟨rfl, hBe⟩
theorem walk (w : World) (a0 : Int) (w0 : (Lit.int .u32 a0).wf = true) (a1 : Int) (w1 : (Lit.int .u16 a1).wf = true) :
    Calls Try.prog 4 #[.int .u32 a0, .int .u16 a1] w fun e w' => e = .returned (.bool true) ∧ Below w.heap.size w w' := by
  have h0 := bounds_u32 w0
  have h1 := bounds_u16 w1
  obtain ⟨x, rfl⟩ : ∃ x : Nat, a0 = x := ⟨a0.toNat, by omega⟩
  obtain ⟨hi, rfl⟩ : ∃ hi : Nat, a1 = hi := ⟨a1.toNat, by omega⟩
  by_cases h3 : x % 4 = 3
  · exact way_word x (by omega) h3 hi _ _ _ _ _ rfl w
  · exact way_half x (by omega) h3 hi (by omega) _ _ _ _ _ rfl w

theorem own : ownKnob Try.prog.godebug = none := by kernel_rfl
theorem laidOut : laidOutB Try.prog = true := by kernel_rfl

set_option maxRecDepth 100000 in
theorem lifted (os : Os) (started : os.Started) (H : Type) (enc : TypeId × Value → H) :
    ReturnsInHanded {} Try.checked os 4 .any (Rows.compAnySpec.pre6 enc Try.prog Try.f4 Rows.compAnyRow.domain false) (Rows.compAnySpec.post enc Try.prog Try.f4 false true false false) := by
  refine returnsInHanded_of_change (C := Try.checked) own started (by kernel_rfl) Try.func4
    (ChangeSpec.witness6 (enc := enc) (C := Try.checked) false ⟨#[], #[.int .u32 0, .int .u16 0], []⟩ 8 (by kernel_rfl) (by kernel_rfl) (by kernel_rfl) (by kernel_rfl)) ?_
  intro W base args ds gs before hval0 hW hcnd _
  have hval : ∀ (j : Nat) t v, Try.f4.params[j]? = some t → args[j]? = some v → Value.okWide Try.prog W .any base t v := hval0
  have hW' := hW
  obtain ⟨p, q, hA0, hV, rfl, hfz, hnd⟩ := hW
  have hA : DataW.TrodAll enc Try.prog W 0 (fun _ => true) true Try.f4.params.toList args.toList ds p := hA0
  rw [Try.params4] at hA hval
  obtain ⟨v0, vs0, d0, ds0, p0, q0, hargs, rfl, rfl, h0, r0⟩ := trodAll_cons hA
  obtain ⟨v1, vs1, d1, ds1, p1, q1, rfl, rfl, rfl, h1, r1⟩ := trodAll_cons r0
  obtain ⟨rfl, rfl, rfl⟩ := trodAll_nil r1
  obtain rfl : args = #[v0, v1] := by cases args; simp_all
  obtain ⟨rfl, rfl⟩ := trodVars_none hV
  clear hA0 hval0 hA
  have k0 := h0
  have lt0 : ∀ x ∈ p0, x.block < W.heap.size := by obtain ⟨m, hm⟩ := k0; exact DataW.trod_lt m _ _ _ hm
  obtain ⟨a0, rfl, rfl, rfl, w0⟩ := open_int Try.underlying29 (hval 0 29 v0 rfl rfl) h0
  have k1 := h1
  have lt1 : ∀ x ∈ p1, x.block < W.heap.size := by obtain ⟨m, hm⟩ := k1; exact DataW.trod_lt m _ _ _ hm
  obtain ⟨a1, rfl, rfl, rfl, w1⟩ := open_int Try.underlying22 (hval 1 22 v1 rfl rfl) h1
  refine (walk W a0 w0 a1 w1).mono fun e W' ⟨he, bel⟩ => ?_
  subst he
  exact ⟨_, rfl, _, _, _, [], _, [], hW', trodAll_mk1 (shut_bool Try.underlying4 _), (trodAll_cons_mk (Below.trod laidOut (by kernel_rfl) (of_decide_eq_true (by kernel_rfl)) k0 bel lt0) (trodAll_cons_mk (Below.trod laidOut (by kernel_rfl) (of_decide_eq_true (by kernel_rfl)) k1 bel lt1) trodAll_mk0)), rfl, bel.frame _, fun h => by cases h⟩

theorem over : Rows.compAnyRow.holds Try.pinned (OpenSpec.ofChange Rows.compAnySpec) :=
  OpenClaim.holds_of_wide 4 Try.f4 rfl rfl rfl rfl rfl rfl rfl ⟨rfl, rfl, rfl, rfl, rfl⟩ rfl rfl rfl rfl rfl (by kernel_rfl) Try.func4 (by kernel_rfl)
    (of_decide_eq_true (by kernel_rfl)) (by unfold Func.isWrapper; first | (rw [if_pos (by decide +kernel)]; kernel_rfl) | (rw [if_neg (by decide +kernel)]; exact ⟨rfl, rfl⟩))
    (fun os started H enc _ => lifted os started H enc)

/-- The statement. -/
theorem proved : Rows.CompAnySaid := over
#print axioms proved

end Go.Proofs.Ythdjbmajdbfebaa.compAny
