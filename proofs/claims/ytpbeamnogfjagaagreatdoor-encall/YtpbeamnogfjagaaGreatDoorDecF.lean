/-
  What the forms of package decode read from a word: closures, and what a call of one answers: contracts over the program's translation.
  Conditions: the arguments are numbers of their kinds.
-/
import Derived.Test.YtpbeamnogfjagaaGreatDoorDecT
import Derived.Deep.RegionHeld3
namespace Go.Proofs.YtpbeamnogfjagaaGreatDoor
open Go Go.RowKit F W M D
set_option linter.unusedVariables false

/-- The value is a number's function: by a format, by bits, or none. -/
def IsImm (w : World) (v : Value) (x : Nat) (n : Int) : Prop :=
  ∃ p, v = .func (.func 102) #[] #[p] ∧ ∀ w', w.grownBy w' none → Calls Tryz.prog 102 #[.int .u32 x, p] w' fun e w'' => e = .returned (.int .i64 n) ∧ w'.grownBy w'' none
def IsBits (w : World) (v : Value) (x : Nat) (n : Int) : Prop :=
  ∃ p q, v = .func (.func 123) #[] #[p, q] ∧ ∀ w', w.grownBy w' none → Calls Tryz.prog 123 #[.int .u32 x, p, q] w' fun e w'' => e = .returned (.int .i64 n) ∧ w'.grownBy w'' none
theorem IsImm.grown {w w' : World} {v : Value} {x : Nat} {n : Int} (h : IsImm w v x n) (hg : w.grownBy w' none) : IsImm w' v x n := by
  obtain ⟨p, h1, h2⟩ := h
  exact ⟨p, h1, fun w'' hg' => h2 w'' (gr_trans hg hg')⟩
theorem IsBits.grown {w w' : World} {v : Value} {x : Nat} {n : Int} (h : IsBits w v x n) (hg : w.grownBy w' none) : IsBits w' v x n := by
  obtain ⟨p, q, h1, h2⟩ := h
  exact ⟨p, q, h1, fun w'' hg' => h2 w'' (gr_trans hg hg')⟩
def GivesI (w : World) (x : Nat) (n : Int) (e : Ending) (w' : World) : Prop := ∃ v, e = .returned v ∧ IsImm w' v x n ∧ w.grownBy w' none
def GivesB (w : World) (x : Nat) (n : Int) (e : Ending) (w' : World) : Prop := ∃ v, e = .returned v ∧ IsBits w' v x n ∧ w.grownBy w' none

theorem imm1_c (x : Nat) (f : Int) (hx : x < 4294967296) (hf : 0 ≤ f ∧ f ≤ 5) (b : Nat) (w : World) (h : Row w b 3 [.int .i64 f]) :
    Calls Tryz.prog 102 #[.int .u32 x, .pointer (some ⟨b, 0, none⟩)] w fun e w' => e = .returned (.int .i64 (immV x f)) ∧ w.grownBy w' none := by
  have c := h.cell 0
  simp only [List.getElem?_cons_zero] at c
  go_enter Tryz.func102, Tryz.ntmps102
  go_wp2_with fail
  refine (Imm_c x f hx (by omega) _).mono ?_
  rintro e w1 ⟨rfl, hG⟩
  go_wp2_with fail
  go_ret
  exact ⟨rfl, hG⟩
theorem imm_f (f : Int) (hf : 0 ≤ f ∧ f ≤ 5) (x : Nat) (hx : x < 4294967296) (w : World) :
    Calls Tryz.prog 78 #[.int .i64 f] w (GivesI w x (immV x f)) := by
  have hmf : ∀ (fn : Fn) (first cap : Array Value) (w : World), (Instr.makeFunc fn first cap).run Tryz.prog w = .ok (.func fn first cap) w := fun _ _ _ _ => rfl
  go_enter Tryz.func78, Tryz.ntmps78
  go_wp2_with fail
  go_ret
  exact ⟨_, rfl, ⟨_, rfl, fun w' hg => imm1_c x f hx hf _ w' ((Row.fresh w 3 [.int .i64 f]).grown hg (by simp))⟩, gr_alloc (gr_refl _ _) _⟩

theorem none_c (x : Nat) (hx : x < 4294967296) (w : World) :
    Calls Tryz.prog 113 #[.int .u32 x] w fun e w' => e = .returned (.int .i64 0) ∧ w.grownBy w' none := by
  go_enter Tryz.func113, Tryz.ntmps113
  go_wp2_with fail
  go_ret
  exact ⟨rfl, gr_refl _ _⟩
theorem bits1_c (x : Nat) (l m : Nat) (hx : x < 4294967296) (hl : l ≤ 31) (hm : 1 ≤ m ∧ m ≤ 32) (b c : Nat) (w : World) (h : Row w b 3 [.int .i64 l]) (h' : Row w c 3 [.int .i64 m]) :
    Calls Tryz.prog 123 #[.int .u32 x, .pointer (some ⟨b, 0, none⟩), .pointer (some ⟨c, 0, none⟩)] w fun e w' => e = .returned (.int .i64 (get x l m : Nat)) ∧ w.grownBy w' none := by
  have c1 := h.cell 0
  have c2 := h'.cell 0
  simp only [List.getElem?_cons_zero] at c1 c2
  have hg := get_le x l m
  go_enter Tryz.func123, Tryz.ntmps123
  go_wp2_with fail
  refine (Get_c x l m hx (by omega) (by omega) _).mono ?_
  rintro e w1 ⟨rfl, n, rfl⟩
  rw [gotV_nat x l m hm.1]
  go_wp2_with fail
  go_ret
  exact ⟨rfl, gr_drewN (gr_refl _ _) n⟩
theorem bits_f (l m : Nat) (hl : l ≤ 31) (hm : 1 ≤ m ∧ m ≤ 32) (x : Nat) (hx : x < 4294967296) (w : World) :
    Calls Tryz.prog 109 #[.int .i64 l, .int .i64 m] w (GivesB w x (get x l m : Nat)) := by
  have hmf : ∀ (fn : Fn) (first cap : Array Value) (w : World), (Instr.makeFunc fn first cap).run Tryz.prog w = .ok (.func fn first cap) w := fun _ _ _ _ => rfl
  go_enter Tryz.func109, Tryz.ntmps109
  go_wp2_with fail
  go_ret
  exact ⟨_, rfl, ⟨_, _, rfl, fun w' hg => bits1_c x l m hx hl hm _ _ w' (((Row.fresh w 3 [.int .i64 l]).alloc _).grown hg (by simp)) (by have h := (Row.fresh (w.alloc (.cells #[.int .i64 l] 3)) 3 [.int .i64 m]).grown hg (by simp); rwa [World.size_alloc] at h)⟩, gr_alloc (gr_alloc (gr_refl _ _) _) _⟩

/-! ### A struct of six numbers: stored, and handed back -/
theorem six {w : World} {g : Nat} {t : TypeId} {l : List Value} (h : Row w g t l) (hl : l.length = 6) (a b c d e f : Value) :
    Row ((((((w.setCell ⟨g, 0, none⟩ a).setCell ⟨g, 1, none⟩ b).setCell ⟨g, 2, none⟩ c).setCell ⟨g, 3, none⟩ d).setCell ⟨g, 4, none⟩ e).setCell ⟨g, 5, none⟩ f) g t [a, b, c, d, e, f] := by
  have := (((((h.put 0 a).put 1 b).put 2 c).put 3 d).put 4 e).put 5 f
  match l, hl with
  | [_, _, _, _, _, _], _ => exact this
theorem six_gr {w0 w : World} {g : Nat} (h : w0.grownBy w none) (hg : w0.heap.size ≤ g) (a b c d e f : Value) :
    w0.grownBy ((((((w.setCell ⟨g, 0, none⟩ a).setCell ⟨g, 1, none⟩ b).setCell ⟨g, 2, none⟩ c).setCell ⟨g, 3, none⟩ d).setCell ⟨g, 4, none⟩ e).setCell ⟨g, 5, none⟩ f) none :=
  gr_row (gr_set (gr_set (gr_set (gr_set (gr_set (gr_set (gr_none h _) _) _) _) _) _) _) hg
theorem six_cell {w : World} {g b : Nat} {v : Option Value} (hne : b ≠ g) (h : w.cell? ⟨b, 0, none⟩ = v) (a1 b1 c1 d1 e1 f1 : Value) :
    ((((((w.setCell ⟨g, 0, none⟩ a1).setCell ⟨g, 1, none⟩ b1).setCell ⟨g, 2, none⟩ c1).setCell ⟨g, 3, none⟩ d1).setCell ⟨g, 4, none⟩ e1).setCell ⟨g, 5, none⟩ f1).cell? ⟨b, 0, none⟩ = v := by
  rw [← h]
  have k : ∀ (w : World) (i : Nat) (u : Value), (w.setCell ⟨g, i, none⟩ u).cell? ⟨b, 0, none⟩ = w.cell? ⟨b, 0, none⟩ := fun w i u => by
    simp [World.cell?, heap_setCell_other w ⟨g, i, none⟩ b u hne]
  rw [k, k, k, k, k, k]
theorem six_ret {fn : Func} {p : Tmp} (h : fn.results = #[.cell p 23]) {R : Ending → World → Prop} {a : Act} {w : World} {g : Nat} {a0 a1 a2 a3 a4 a5 : Value}
    (hp : a.tmps.getD p undef = .pointer (some ⟨g, 0, none⟩)) (hd : a.defers = []) (hR : Row w g 23 [a0, a1, a2, a3, a4, a5]) (hQ : R (.returned (.agg #[a0, a1, a2, a3, a4, a5])) w) :
    bodyPost Tryz.prog fn R .ret a w :=
  bodyPost_ret (results_cell_row h _ w g _ #[a0, a1, a2, a3, a4, a5] (0, 0) _ hp hR Tryz.underlying23 rfl (by kernel_rfl)) hd hQ
def six0 : List Value := [.int .i64 0, .int .i64 0, .int .i64 0, .int .i64 0, .int .i64 0, .int .i64 0]

theorem bare_c (x : Nat) (hx : x < 4294967296) (w : World) :
    Calls Tryz.prog 91 #[.int .u32 x] w fun e w' => e = .returned (.agg (insn 0 (0, bar))) ∧ w.grownBy w' none := by
  go_enter Tryz.func91, Tryz.ntmps91
  go_wp2_with fail
  exact six_ret rfl rfl rfl (Row.fresh w 23 six0) ⟨rfl, gr_alloc (gr_refl _ _) _⟩
theorem three_c (x : Nat) (hx : x < 4294967296) (w : World) :
    Calls Tryz.prog 88 #[.int .u32 x] w fun e w' => e = .returned (.agg (insn 0 (0, thr x))) ∧ w.grownBy w' none := by
  have HR := Lib.hid (Row.fresh w 23 six0)
  go_enter Tryz.func88, Tryz.ntmps88
  go_wp2_with fail
  refine (Rd_c x hx _).mono ?_
  rintro e w1 ⟨rfl, n1, rfl⟩
  go_wp2_with fail
  refine (Rs1_c x hx _).mono ?_
  rintro e w1 ⟨rfl, n2, rfl⟩
  go_wp2_with fail
  refine (Rs2_c x hx _).mono ?_
  rintro e w1 ⟨rfl, n3, rfl⟩
  go_wp2_with fail
  exact six_ret rfl rfl rfl (six (HR.out.grown (gr_drewN (gr_refl _ none) _) (by simp)) rfl _ _ _ _ _ _) ⟨rfl, six_gr (gr_drewN (gr_alloc (gr_refl _ _) _) _) (Nat.le_refl _) _ _ _ _ _ _⟩

set_option maxHeartbeats 2000000 in
theorem target1_imm (x : Nat) (hx : x < 4294967296) (n : Int) (b : Nat) (p0 : Value) (w : World) (h : Row w b 81 [.func (.func 102) #[] #[p0]])
    (hv : ∀ w', w.grownBy w' none → Calls Tryz.prog 102 #[.int .u32 x, p0] w' fun e w'' => e = .returned (.int .i64 n) ∧ w'.grownBy w'' none) :
    Calls Tryz.prog 100 #[.int .u32 x, .pointer (some ⟨b, 0, none⟩)] w fun e w' => e = .returned (.agg (insn 0 (0, tgt x n))) ∧ w.grownBy w' none := by
  have HR := Lib.hid (Row.fresh w 23 six0)
  have HV := Lib.hid hv
  have hb := h.lt
  have hne : b ≠ w.heap.size := by omega
  have c := h.cell 0
  simp only [List.getElem?_cons_zero] at c
  have c' := (h.alloc (.cells six0.toArray 23)).cell 0
  simp only [List.getElem?_cons_zero] at c'
  clear hv
  go_enter Tryz.func100, Tryz.ntmps100
  go_wp2_with fail
  go_region_held3 (fun w' => w'.cell? ⟨b, 0, none⟩ = some (.func (.func 102) #[] #[p0])) (first | (with_reducible assumption) | (exact six_cell hne cb _ _ _ _ _ _) | (go_keep)) (first
    | (go_at_call 101; refine (Rd_c x hx _).mono ?_; rintro e w1 ⟨rfl, m, rfl⟩)
    | (go_at_call 102; refine (HV.out _ ?_).mono ?_; exact gr_drewN (gr_alloc (gr_refl _ _) _) _; rintro e w1 ⟨rfl, hG⟩; have hR := Lib.hid (HR.out.grown (gr_trans (gr_drewN (gr_refl _ none) _) hG) (by simp)); have k0 := hR.out.cell 0; have k1 := hR.out.cell 1; have k2 := hR.out.cell 2; have k3 := hR.out.cell 3; have k4 := hR.out.cell 4; have k5 := hR.out.cell 5; have z := hR.out.free; have cb := ((h.alloc _).grown (gr_trans (gr_drewN (gr_refl _ none) _) hG) (by simp)).cell 0; simp only [List.getElem?_cons_zero] at cb; simp only [six0, List.getElem?_cons_zero, List.getElem?_cons_succ] at k0 k1 k2 k3 k4 k5))
  all_goals
    go_wp2_with fail
    exact six_ret rfl rfl rfl (six hR.out rfl _ _ _ _ _ _) ⟨rfl, six_gr (gr_trans (gr_drewN (gr_alloc (gr_refl _ _) _) _) hG) (Nat.le_refl _) _ _ _ _ _ _⟩
set_option maxHeartbeats 2000000 in
theorem source1_imm (x : Nat) (hx : x < 4294967296) (n : Int) (b : Nat) (p0 : Value) (w : World) (h : Row w b 81 [.func (.func 102) #[] #[p0]])
    (hv : ∀ w', w.grownBy w' none → Calls Tryz.prog 102 #[.int .u32 x, p0] w' fun e w'' => e = .returned (.int .i64 n) ∧ w'.grownBy w'' none) :
    Calls Tryz.prog 104 #[.int .u32 x, .pointer (some ⟨b, 0, none⟩)] w fun e w' => e = .returned (.agg (insn 0 (0, src x n))) ∧ w.grownBy w' none := by
  have HR := Lib.hid (Row.fresh w 23 six0)
  have HV := Lib.hid hv
  have hb := h.lt
  have hne : b ≠ w.heap.size := by omega
  have c := h.cell 0
  simp only [List.getElem?_cons_zero] at c
  have c' := (h.alloc (.cells six0.toArray 23)).cell 0
  simp only [List.getElem?_cons_zero] at c'
  clear hv
  go_enter Tryz.func104, Tryz.ntmps104
  go_wp2_with fail
  go_region_held3 (fun w' => w'.cell? ⟨b, 0, none⟩ = some (.func (.func 102) #[] #[p0])) (first | (with_reducible assumption) | (exact six_cell hne cb _ _ _ _ _ _) | (go_keep)) (first
    | (go_at_call 101; refine (Rd_c x hx _).mono ?_; rintro e w1 ⟨rfl, m, rfl⟩)
    | (go_at_call 105; refine (Rs1_c x hx _).mono ?_; rintro e w1 ⟨rfl, m, rfl⟩)
    | (go_at_call 102; refine (HV.out _ ?_).mono ?_; exact gr_drewN (gr_alloc (gr_refl _ _) _) _; rintro e w1 ⟨rfl, hG⟩; have hR := Lib.hid (HR.out.grown (gr_trans (gr_drewN (gr_refl _ none) _) hG) (by simp)); have k0 := hR.out.cell 0; have k1 := hR.out.cell 1; have k2 := hR.out.cell 2; have k3 := hR.out.cell 3; have k4 := hR.out.cell 4; have k5 := hR.out.cell 5; have z := hR.out.free; have cb := ((h.alloc _).grown (gr_trans (gr_drewN (gr_refl _ none) _) hG) (by simp)).cell 0; simp only [List.getElem?_cons_zero] at cb; simp only [six0, List.getElem?_cons_zero, List.getElem?_cons_succ] at k0 k1 k2 k3 k4 k5))
  all_goals
    go_wp2_with fail
    exact six_ret rfl rfl rfl (six hR.out rfl _ _ _ _ _ _) ⟨rfl, six_gr (gr_trans (gr_drewN (gr_alloc (gr_refl _ _) _) _) hG) (Nat.le_refl _) _ _ _ _ _ _⟩
set_option maxHeartbeats 2000000 in
theorem source1_bits (x : Nat) (hx : x < 4294967296) (n : Int) (b : Nat) (p0 p1 : Value) (w : World) (h : Row w b 81 [.func (.func 123) #[] #[p0, p1]])
    (hv : ∀ w', w.grownBy w' none → Calls Tryz.prog 123 #[.int .u32 x, p0, p1] w' fun e w'' => e = .returned (.int .i64 n) ∧ w'.grownBy w'' none) :
    Calls Tryz.prog 104 #[.int .u32 x, .pointer (some ⟨b, 0, none⟩)] w fun e w' => e = .returned (.agg (insn 0 (0, src x n))) ∧ w.grownBy w' none := by
  have HR := Lib.hid (Row.fresh w 23 six0)
  have HV := Lib.hid hv
  have hb := h.lt
  have hne : b ≠ w.heap.size := by omega
  have c := h.cell 0
  simp only [List.getElem?_cons_zero] at c
  have c' := (h.alloc (.cells six0.toArray 23)).cell 0
  simp only [List.getElem?_cons_zero] at c'
  clear hv
  go_enter Tryz.func104, Tryz.ntmps104
  go_wp2_with fail
  go_region_held3 (fun w' => w'.cell? ⟨b, 0, none⟩ = some (.func (.func 123) #[] #[p0, p1])) (first | (with_reducible assumption) | (exact six_cell hne cb _ _ _ _ _ _) | (go_keep)) (first
    | (go_at_call 101; refine (Rd_c x hx _).mono ?_; rintro e w1 ⟨rfl, m, rfl⟩)
    | (go_at_call 105; refine (Rs1_c x hx _).mono ?_; rintro e w1 ⟨rfl, m, rfl⟩)
    | (go_at_call 123; refine (HV.out _ ?_).mono ?_; exact gr_drewN (gr_alloc (gr_refl _ _) _) _; rintro e w1 ⟨rfl, hG⟩; have hR := Lib.hid (HR.out.grown (gr_trans (gr_drewN (gr_refl _ none) _) hG) (by simp)); have k0 := hR.out.cell 0; have k1 := hR.out.cell 1; have k2 := hR.out.cell 2; have k3 := hR.out.cell 3; have k4 := hR.out.cell 4; have k5 := hR.out.cell 5; have z := hR.out.free; have cb := ((h.alloc _).grown (gr_trans (gr_drewN (gr_refl _ none) _) hG) (by simp)).cell 0; simp only [List.getElem?_cons_zero] at cb; simp only [six0, List.getElem?_cons_zero, List.getElem?_cons_succ] at k0 k1 k2 k3 k4 k5))
  all_goals
    go_wp2_with fail
    exact six_ret rfl rfl rfl (six hR.out rfl _ _ _ _ _ _) ⟨rfl, six_gr (gr_trans (gr_drewN (gr_alloc (gr_refl _ _) _) _) hG) (Nat.le_refl _) _ _ _ _ _ _⟩
set_option maxHeartbeats 2000000 in
theorem source1_none (x : Nat) (hx : x < 4294967296) (n : Int) (b : Nat) (w : World) (h : Row w b 81 [.func (.func 113) #[] #[]])
    (hv : ∀ w', w.grownBy w' none → Calls Tryz.prog 113 #[.int .u32 x] w' fun e w'' => e = .returned (.int .i64 n) ∧ w'.grownBy w'' none) :
    Calls Tryz.prog 104 #[.int .u32 x, .pointer (some ⟨b, 0, none⟩)] w fun e w' => e = .returned (.agg (insn 0 (0, src x n))) ∧ w.grownBy w' none := by
  have HR := Lib.hid (Row.fresh w 23 six0)
  have HV := Lib.hid hv
  have hb := h.lt
  have hne : b ≠ w.heap.size := by omega
  have c := h.cell 0
  simp only [List.getElem?_cons_zero] at c
  have c' := (h.alloc (.cells six0.toArray 23)).cell 0
  simp only [List.getElem?_cons_zero] at c'
  clear hv
  go_enter Tryz.func104, Tryz.ntmps104
  go_wp2_with fail
  go_region_held3 (fun w' => w'.cell? ⟨b, 0, none⟩ = some (.func (.func 113) #[] #[])) (first | (with_reducible assumption) | (exact six_cell hne cb _ _ _ _ _ _) | (go_keep)) (first
    | (go_at_call 101; refine (Rd_c x hx _).mono ?_; rintro e w1 ⟨rfl, m, rfl⟩)
    | (go_at_call 105; refine (Rs1_c x hx _).mono ?_; rintro e w1 ⟨rfl, m, rfl⟩)
    | (go_at_call 113; refine (HV.out _ ?_).mono ?_; exact gr_drewN (gr_alloc (gr_refl _ _) _) _; rintro e w1 ⟨rfl, hG⟩; have hR := Lib.hid (HR.out.grown (gr_trans (gr_drewN (gr_refl _ none) _) hG) (by simp)); have k0 := hR.out.cell 0; have k1 := hR.out.cell 1; have k2 := hR.out.cell 2; have k3 := hR.out.cell 3; have k4 := hR.out.cell 4; have k5 := hR.out.cell 5; have z := hR.out.free; have cb := ((h.alloc _).grown (gr_trans (gr_drewN (gr_refl _ none) _) hG) (by simp)).cell 0; simp only [List.getElem?_cons_zero] at cb; simp only [six0, List.getElem?_cons_zero, List.getElem?_cons_succ] at k0 k1 k2 k3 k4 k5))
  all_goals
    go_wp2_with fail
    exact six_ret rfl rfl rfl (six hR.out rfl _ _ _ _ _ _) ⟨rfl, six_gr (gr_trans (gr_drewN (gr_alloc (gr_refl _ _) _) _) hG) (Nat.le_refl _) _ _ _ _ _ _⟩
set_option maxHeartbeats 2000000 in
theorem pair1_imm (x : Nat) (hx : x < 4294967296) (n : Int) (b : Nat) (p0 : Value) (w : World) (h : Row w b 81 [.func (.func 102) #[] #[p0]])
    (hv : ∀ w', w.grownBy w' none → Calls Tryz.prog 102 #[.int .u32 x, p0] w' fun e w'' => e = .returned (.int .i64 n) ∧ w'.grownBy w'' none) :
    Calls Tryz.prog 106 #[.int .u32 x, .pointer (some ⟨b, 0, none⟩)] w fun e w' => e = .returned (.agg (insn 0 (0, par x n))) ∧ w.grownBy w' none := by
  have HR := Lib.hid (Row.fresh w 23 six0)
  have HV := Lib.hid hv
  have hb := h.lt
  have hne : b ≠ w.heap.size := by omega
  have c := h.cell 0
  simp only [List.getElem?_cons_zero] at c
  have c' := (h.alloc (.cells six0.toArray 23)).cell 0
  simp only [List.getElem?_cons_zero] at c'
  clear hv
  go_enter Tryz.func106, Tryz.ntmps106
  go_wp2_with fail
  go_region_held3 (fun w' => w'.cell? ⟨b, 0, none⟩ = some (.func (.func 102) #[] #[p0])) (first | (with_reducible assumption) | (exact six_cell hne cb _ _ _ _ _ _) | (go_keep)) (first
    | (go_at_call 105; refine (Rs1_c x hx _).mono ?_; rintro e w1 ⟨rfl, m, rfl⟩)
    | (go_at_call 107; refine (Rs2_c x hx _).mono ?_; rintro e w1 ⟨rfl, m, rfl⟩)
    | (go_at_call 102; refine (HV.out _ ?_).mono ?_; exact gr_drewN (gr_alloc (gr_refl _ _) _) _; rintro e w1 ⟨rfl, hG⟩; have hR := Lib.hid (HR.out.grown (gr_trans (gr_drewN (gr_refl _ none) _) hG) (by simp)); have k0 := hR.out.cell 0; have k1 := hR.out.cell 1; have k2 := hR.out.cell 2; have k3 := hR.out.cell 3; have k4 := hR.out.cell 4; have k5 := hR.out.cell 5; have z := hR.out.free; have cb := ((h.alloc _).grown (gr_trans (gr_drewN (gr_refl _ none) _) hG) (by simp)).cell 0; simp only [List.getElem?_cons_zero] at cb; simp only [six0, List.getElem?_cons_zero, List.getElem?_cons_succ] at k0 k1 k2 k3 k4 k5))
  all_goals
    go_wp2_with fail
    exact six_ret rfl rfl rfl (six hR.out rfl _ _ _ _ _ _) ⟨rfl, six_gr (gr_trans (gr_drewN (gr_alloc (gr_refl _ _) _) _) hG) (Nat.le_refl _) _ _ _ _ _ _⟩
set_option maxHeartbeats 2000000 in
theorem pair1_none (x : Nat) (hx : x < 4294967296) (n : Int) (b : Nat) (w : World) (h : Row w b 81 [.func (.func 113) #[] #[]])
    (hv : ∀ w', w.grownBy w' none → Calls Tryz.prog 113 #[.int .u32 x] w' fun e w'' => e = .returned (.int .i64 n) ∧ w'.grownBy w'' none) :
    Calls Tryz.prog 106 #[.int .u32 x, .pointer (some ⟨b, 0, none⟩)] w fun e w' => e = .returned (.agg (insn 0 (0, par x n))) ∧ w.grownBy w' none := by
  have HR := Lib.hid (Row.fresh w 23 six0)
  have HV := Lib.hid hv
  have hb := h.lt
  have hne : b ≠ w.heap.size := by omega
  have c := h.cell 0
  simp only [List.getElem?_cons_zero] at c
  have c' := (h.alloc (.cells six0.toArray 23)).cell 0
  simp only [List.getElem?_cons_zero] at c'
  clear hv
  go_enter Tryz.func106, Tryz.ntmps106
  go_wp2_with fail
  go_region_held3 (fun w' => w'.cell? ⟨b, 0, none⟩ = some (.func (.func 113) #[] #[])) (first | (with_reducible assumption) | (exact six_cell hne cb _ _ _ _ _ _) | (go_keep)) (first
    | (go_at_call 105; refine (Rs1_c x hx _).mono ?_; rintro e w1 ⟨rfl, m, rfl⟩)
    | (go_at_call 107; refine (Rs2_c x hx _).mono ?_; rintro e w1 ⟨rfl, m, rfl⟩)
    | (go_at_call 113; refine (HV.out _ ?_).mono ?_; exact gr_drewN (gr_alloc (gr_refl _ _) _) _; rintro e w1 ⟨rfl, hG⟩; have hR := Lib.hid (HR.out.grown (gr_trans (gr_drewN (gr_refl _ none) _) hG) (by simp)); have k0 := hR.out.cell 0; have k1 := hR.out.cell 1; have k2 := hR.out.cell 2; have k3 := hR.out.cell 3; have k4 := hR.out.cell 4; have k5 := hR.out.cell 5; have z := hR.out.free; have cb := ((h.alloc _).grown (gr_trans (gr_drewN (gr_refl _ none) _) hG) (by simp)).cell 0; simp only [List.getElem?_cons_zero] at cb; simp only [six0, List.getElem?_cons_zero, List.getElem?_cons_succ] at k0 k1 k2 k3 k4 k5))
  all_goals
    go_wp2_with fail
    exact six_ret rfl rfl rfl (six hR.out rfl _ _ _ _ _ _) ⟨rfl, six_gr (gr_trans (gr_drewN (gr_alloc (gr_refl _ _) _) _) hG) (Nat.le_refl _) _ _ _ _ _ _⟩
end Go.Proofs.YtpbeamnogfjagaaGreatDoor
