/-
  A row of reservations of package amo, on: what is set, taken and stored: contracts over the program's translation.
  Conditions: the arguments are numbers of their kinds; the row stands behind its pointer.
-/
import Derived.Test.YtaanmebebapbpaaDoorAmoP
import Derived.Deep.RegionHeld3
namespace Go.Proofs.YtaanmebebapbpaaDoor
open Go Go.RowKit W M D A
set_option linter.unusedVariables false

/-! ### Two places compared -/
theorem fld_int {P : Program} {w : World} {d : Nat} {xs ys : Array Value} {f : Field} {fs : List Field} {a b : Int} {r : Bool} (hn : f.name ≠ "_") (hx : (part f.type xs f.offset).run P w = .ok (.int .u64 a) w) (hy : (part f.type ys f.offset).run P w = .ok (.int .u64 b) w)
    (ht : P.underlying f.type = some (.int .u64)) (h : (Op.eqFields (d + 1) xs ys fs).run P w = .ok r w) : (Op.eqFields (d + 1) xs ys (f :: fs)).run P w = .ok (a == b && r) w := by
  rw [Op.eqFields, if_pos hn]
  simp only [Sem.run_bind, hx, hy, Result.andThen_ok, run_equalIn_int w d f.type .u64 .u64 a b ht]
  cases hab : (a == b)
  · simp
  · simpa using h
theorem fld_bool {P : Program} {w : World} {d : Nat} {xs ys : Array Value} {f : Field} {fs : List Field} {a b : Bool} {r : Bool} (hn : f.name ≠ "_") (hx : (part f.type xs f.offset).run P w = .ok (.bool a) w) (hy : (part f.type ys f.offset).run P w = .ok (.bool b) w)
    (ht : P.underlying f.type = some .bool) (h : (Op.eqFields (d + 1) xs ys fs).run P w = .ok r w) : (Op.eqFields (d + 1) xs ys (f :: fs)).run P w = .ok (a == b && r) w := by
  rw [Op.eqFields, if_pos hn]
  simp only [Sem.run_bind, hx, hy, Result.andThen_ok, run_equalIn_bool w d f.type a b ht]
  cases hab : (a == b)
  · simp
  · simpa using h
theorem fields_pl : (Tryd.prog.fieldsOf 61).toList = [(Tryd.prog.fieldsOf 61)[0]!, (Tryd.prog.fieldsOf 61)[1]!] := by kernel_rfl
theorem equal_pl (a b : Int) (t u : Bool) (w : World) : (Op.equalIn 10000 61 (.agg #[.int .u64 a, .bool t]) (.agg #[.int .u64 b, .bool u])).run Tryd.prog w = .ok (a == b && (t == u && true)) w := by
  rw [run_equalIn_agg w 9999 _ _ _ (by kernel_rfl) (by kernel_rfl), fields_pl]
  refine fld_int (d := 9998) (by decide +kernel) (by kernel_rfl) (by kernel_rfl) (by kernel_rfl) ?_
  refine fld_bool (d := 9998) (by decide +kernel) (by kernel_rfl) (by kernel_rfl) (by kernel_rfl) ?_
  rfl
theorem eql_pl (a b : Int) (t u : Bool) (w : World) : (binOp .eql 61 (.agg #[.int .u64 a, .bool t]) (.agg #[.int .u64 b, .bool u])).run Tryd.prog w = .ok (.bool (a == b && t == u)) w := by
  rw [run_eql_struct, equal_pl, Result.andThen_ok, Bool.and_true]

theorem Set_c (p : Nat) (s : St) (h a : Int) (hh : I64 h) (ha : B64 a) (w : World) (hR : RAt w p s) :
    Calls Tryd.prog 17 #[.pointer (some ⟨p, 0, none⟩), .int .i64 h, .int .u64 a] w fun e w' => e = .returned (.tuple #[]) ∧ RAt w' p (setS s h a) ∧ w.grownBy w' (some p) := by
  have HH := Lib.hid (fun W => isHart_c h hh W)
  have HV := Lib.hid (fun W => reserve_c a ha W)
  unfold setS
  by_cases e : isH h = true
  · have := (isH_iff h).1 e
    obtain ⟨i, rfl⟩ : ∃ i : Nat, h = i := ⟨h.toNat, by omega⟩
    have hi : i < 8 := by omega
    rw [e] at HH ⊢
    rw [if_pos rfl, Int.toNat_natCast]
    have c0 := hR.at hi
    have c1 := hR.is hi
    have f0 := hR.row.free (i * 2)
    have f1 := hR.row.free (i * 2 + 1)
    go_enter Tryd.func17, Tryd.ntmps17
    go_wp2_with fail
    refine (HH.out _).mono ?_
    rintro e w' ⟨rfl, rfl⟩
    go_wp2_with fail
    go_region_with (go_at_call 34; refine (HV.out _).mono ?_; rintro e w' ⟨rfl, hG⟩; have hR2 : RAt w' p s := ⟨Row.grown (by exact hR.row) hG (by simp), hR.good⟩; have hG2 : w.grownBy w' none := ⟨hG.os, hG.tape, hG.output, hG.size, hG.block⟩; have c0' := hR2.at hi; have c1' := hR2.is hi; have f0' := hR2.row.free (i * 2); have f1' := hR2.row.free (i * 2 + 1); clear hG)
    go_end0
    exact ⟨rfl, hR2.put hi (blk_bd ha) (blk_by8 a) (by simp), gr_set (gr_set (gr_none hG2 _) _) _⟩
  · have e : isH h = false := by simpa using e
    rw [e] at HH ⊢
    rw [if_neg (by simp)]
    go_enter Tryd.func17, Tryd.ntmps17
    go_wp2_with fail
    refine (HH.out _).mono ?_
    rintro e w' ⟨rfl, rfl⟩
    go_wp2_with fail
    go_end0
    exact ⟨rfl, hR, gr_refl _ _⟩
/-- What Take found stands in block q, the row behind p. -/
def HeldT (w0 : World) (q p : Nat) (b : Int) (t : Bool) (s : St) (w : World) : Prop :=
  w.cell? ⟨q, 0, none⟩ = some (.int .u64 b) ∧ w.cell? ⟨q, 1, none⟩ = some (.bool t) ∧ Row w q 61 [.int .u64 b, .bool t] ∧ RAt w p s ∧ w0.grownBy w (some p)
theorem heldT_of {w0 w : World} {q p : Nat} {b : Int} {t : Bool} {s : St} (h : Row w q 61 [.int .u64 b, .bool t]) (hR : RAt w p s) (hg : w0.grownBy w (some p)) : HeldT w0 q p b t s w :=
  ⟨h.cell 0, h.cell 1, h, hR, hg⟩
theorem HeldT.on {w0 w w' : World} {q p : Nat} {b : Int} {t : Bool} {s : St} (hg : w.grownBy w' none) (h : HeldT w0 q p b t s w) : HeldT w0 q p b t s w' :=
  heldT_of (h.2.2.1.grown hg (by simp)) (h.2.2.2.1.kept hg) (gr_trans h.2.2.2.2 (gr_none hg _))
theorem HeldT.fin {w0 w : World} {q p : Nat} {b : Int} {t : Bool} {s : St} (h : HeldT w0 q p b t s w) : RAt w p s ∧ w0.grownBy w (some p) := h.2.2.2
set_option maxHeartbeats 400000 in
theorem Take_c (p : Nat) (s : St) (h a : Int) (hh : I64 h) (ha : B64 a) (w : World) (hR : RAt w p s) :
    Calls Tryd.prog 19 #[.pointer (some ⟨p, 0, none⟩), .int .i64 h, .int .u64 a] w fun e w' => e = .returned (.bool (takeS s h a)) ∧ RAt w' p (tookS s h) ∧ w.grownBy w' (some p) := by
  have HH := Lib.hid (fun W => isHart_c h hh W)
  have HV := Lib.hid (fun W => reserve_c a ha W)
  unfold takeS tookS
  by_cases e : isH h = true
  · have := (isH_iff h).1 e
    obtain ⟨i, rfl⟩ : ∃ i : Nat, h = i := ⟨h.toNat, by omega⟩
    have hi : i < 8 := by omega
    rw [e] at HH ⊢
    rw [if_pos rfl, Int.toNat_natCast, Bool.true_and]
    have c0 := hR.at hi
    have c1 := hR.is hi
    have f0 := hR.row.free (i * 2)
    have f1 := hR.row.free (i * 2 + 1)
    have hp := hR.row.lt
    have hq := eql_pl (atS s i) (blk a) (isS s i) true
    go_enter Tryd.func19, Tryd.ntmps19
    go_wp2_with fail
    refine (HH.out _).mono ?_
    rintro e w' ⟨rfl, rfl⟩
    go_wp2_with fail
    have hS0 : HeldT w w.heap.size p (atS s i) (isS s i) (s.set i (0, false)) (((w.setCell ⟨p, i * 2, none⟩ (.int .u64 0)).setCell ⟨p, i * 2 + 1, none⟩ (.bool false)).alloc (.cells #[.int .u64 (atS s i), .bool (isS s i)] 61)) := by
      have := Row.fresh ((w.setCell ⟨p, i * 2, none⟩ (.int .u64 0)).setCell ⟨p, i * 2 + 1, none⟩ (.bool false)) 61 [.int .u64 (atS s i), .bool (isS s i)]
      exact heldT_of (by simpa using this) (Res.kept (hR.put hi zero_bd rfl (fun _ => rfl)) (gr_alloc (gr_refl _ _) _)) (gr_alloc (gr_set (gr_set (gr_refl _ _) _) _) _)
    unfold HeldT at hS0
    generalize ((w.setCell ⟨p, i * 2, none⟩ (.int .u64 0)).setCell ⟨p, i * 2 + 1, none⟩ (.bool false)).alloc (.cells #[.int .u64 (atS s i), .bool (isS s i)] 61) = V at *
    generalize w.heap.size = q at *
    clear c0 c1 f0 f1 hp HH
    go_region_held3 (fun w' => w'.cell? ⟨q, 0, none⟩ = some (.int .u64 (atS s i)) ∧ w'.cell? ⟨q, 1, none⟩ = some (.bool (isS s i)) ∧ Row w' q 61 [.int .u64 (atS s i), .bool (isS s i)] ∧ RAt w' p (s.set i (0, false)) ∧ w.grownBy w' (some p))
      (first | assumption | (exact HeldT.on (gr_drew (gr_refl _ none)) (by assumption)) | (exact HeldT.on (by assumption) (by assumption)))
      (first | (go_at_call 34; refine (HV.out _).mono ?_; rintro e w' ⟨rfl, hg⟩))
    all_goals
      rename_i hHeld
      have hF := HeldT.fin hHeld
      clear hHeld
      go_wp2_with fail
      go_ret
      exact ⟨ret_boo (show (atS s i == blk a && isS s i) = _ by rw [Bool.and_comm]; rfl), hF.1, hF.2⟩
  · have e : isH h = false := by simpa using e
    rw [e] at HH ⊢
    rw [if_neg (by simp), Bool.false_and]
    go_enter Tryd.func19, Tryd.ntmps19
    go_wp2_with fail
    refine (HH.out _).mono ?_
    rintro e w' ⟨rfl, rfl⟩
    go_wp2_with fail
    go_ret
    exact ⟨rfl, hR, gr_refl _ _⟩
end Go.Proofs.YtaanmebebapbpaaDoor
