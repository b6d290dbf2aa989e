/-
  The functions that package alu makes of others: contracts over the program's translation.
  Conditions: the arguments are numbers of their kinds.
-/
import Derived.Test.YtmabfocpcbaniaaDoorAluF
import Derived.Deep.QuietTactic
import Derived.BigQuiet
namespace Go.Proofs.YtmabfocpcbaniaaDoor
open Go Go.RowKit W M D A
set_option linter.unusedVariables false

theorem still {f : FuncId} {args : Array Value} {w : World} {v : Value} (h : Calls Tryd.prog f args w fun e w' => e = .returned v ∧ w = w') : Calls Tryd.prog f args w fun e w' => e = .returned v ∧ w.grownBy w' none :=
  h.mono fun _ _ ⟨he, hw⟩ => ⟨he, hw ▸ gr_refl _ _⟩
/-- Every row of cells that stood stands. -/
def Cel (w w' : World) : Prop := ∀ g t l, Row w g t l → Row w' g t l
theorem cel_refl (w : World) : Cel w w := fun _ _ _ h => h
theorem Cel.trans {a b c : World} (h : Cel a b) (k : Cel b c) : Cel a c := fun g t l r => k g t l (h g t l r)
theorem cel_gr {w w' : World} (h : w.grownBy w' none) : Cel w w' := fun g t l r => r.grown h (by simp)
theorem cel_alloc (w : World) (o : Obj) : Cel w (w.alloc o) := cel_gr (gr_alloc (gr_refl _ _) _)
/-- The function can be called by its number. -/
def Opens (k : Nat) : Prop := ∀ args W, (callFunc k args).run Tryd.prog W = .ok (.enter k args) W
/-- The value is a function of two numbers that, called in any world that has grown from here, answers as f does. -/
def Does (w : World) (v : Value) (f : Int → Int → Int) : Prop :=
  ∃ k cap, v = .func (.func k) #[] cap ∧ Opens k ∧ (∀ a b, B64 a → B64 b → B64 (f a b)) ∧ ∀ w', Cel w w' → ∀ a b, B64 a → B64 b →
    Calls Tryd.prog k (#[.int .u64 a, .int .u64 b] ++ cap) w' fun e w'' => e = .returned (.int .u64 (f a b)) ∧ w'.grownBy w'' none
def Tests (w : World) (v : Value) (t : Int → Int → Bool) : Prop :=
  ∃ k cap, v = .func (.func k) #[] cap ∧ Opens k ∧ ∀ w', Cel w w' → ∀ a b, B64 a → B64 b →
    Calls Tryd.prog k (#[.int .u64 a, .int .u64 b] ++ cap) w' fun e w'' => e = .returned (.bool (t a b)) ∧ w' = w''
def Reads (v : Value) (f : Int → Int) : Prop :=
  ∃ k, v = .func (.func k) #[] #[] ∧ Opens k ∧ (∀ a, B64 a → B64 (f a)) ∧ ∀ w a, B64 a →
    Calls Tryd.prog k #[.int .u64 a] w fun e w'' => e = .returned (.int .u64 (f a)) ∧ w = w''
def Bys (v : Value) (f : Int → Int → Bool → Int) : Prop :=
  ∃ k, v = .func (.func k) #[] #[] ∧ Opens k ∧ (∀ a b s, B64 a → B64 b → B64 (f a b s)) ∧ ∀ w a b s, B64 a → B64 b →
    Calls Tryd.prog k #[.int .u64 a, .int .u64 b, .bool s] w fun e w'' => e = .returned (.int .u64 (f a b s)) ∧ w = w''
theorem Does.grown {w w' : World} {v : Value} {f : Int → Int → Int} (h : Does w v f) (hg : Cel w w') : Does w' v f := by
  obtain ⟨k, cap, h1, hc, hb, h2⟩ := h
  exact ⟨k, cap, h1, hc, hb, fun w'' hg' => h2 w'' (hg.trans hg')⟩
theorem Tests.grown {w w' : World} {v : Value} {f : Int → Int → Bool} (h : Tests w v f) (hg : Cel w w') : Tests w' v f := by
  obtain ⟨k, cap, h1, hc, h2⟩ := h
  exact ⟨k, cap, h1, hc, fun w'' hg' => h2 w'' (hg.trans hg')⟩
theorem sum_d (w : World) : Does w (.func (.func 41) #[] #[]) sumV := ⟨_, _, rfl, fun _ _ => by kernel_rfl, fun a b _ _ => sum_bd a b, fun w' _ a b ha hb => still (sum_c a b ha hb w')⟩
theorem dif_d (w : World) : Does w (.func (.func 47) #[] #[]) difV := ⟨_, _, rfl, fun _ _ => by kernel_rfl, fun a b _ _ => dif_bd a b, fun w' _ a b ha hb => still (dif_c a b ha hb w')⟩
theorem mul_d (w : World) : Does w (.func (.func 52) #[] #[]) mulV := ⟨_, _, rfl, fun _ _ => by kernel_rfl, fun a b _ _ => mul_bd a b, fun w' _ a b ha hb => still (mul_c a b ha hb w')⟩
theorem xor_d (w : World) : Does w (.func (.func 42) #[] #[]) xorV := ⟨_, _, rfl, fun _ _ => by kernel_rfl, fun a b ha hb => xor_bd ha hb, fun w' _ a b ha hb => still (xor_c a b ha hb w')⟩
theorem or_d (w : World) : Does w (.func (.func 43) #[] #[]) orV := ⟨_, _, rfl, fun _ _ => by kernel_rfl, fun a b ha hb => or_bd ha hb, fun w' _ a b ha hb => still (or_c a b ha hb w')⟩
theorem and_d (w : World) : Does w (.func (.func 44) #[] #[]) andV := ⟨_, _, rfl, fun _ _ => by kernel_rfl, fun a b ha hb => and_bd ha hb, fun w' _ a b ha hb => still (and_c a b ha hb w')⟩
theorem same_t (w : World) : Tests w (.func (.func 37) #[] #[]) eqU := ⟨_, _, rfl, fun _ _ => by kernel_rfl, fun w' _ a b ha hb => same_c a b ha hb w'⟩
theorem less_t (w : World) : Tests w (.func (.func 40) #[] #[]) ltU := ⟨_, _, rfl, fun _ _ => by kernel_rfl, fun w' _ a b ha hb => less_c a b ha hb w'⟩
theorem lessS_t (w : World) : Tests w (.func (.func 39) #[] #[]) ltS := ⟨_, _, rfl, fun _ _ => by kernel_rfl, fun w' _ a b ha hb => lessS_c a b ha hb w'⟩
theorem low_r : Reads (.func (.func 50) #[] #[]) lowV := ⟨_, rfl, fun _ _ => by kernel_rfl, fun a ha => lowV_bd ha, fun w a ha => low_c a ha w⟩
theorem lowS_r : Reads (.func (.func 51) #[] #[]) lowS := ⟨_, rfl, fun _ _ => by kernel_rfl, fun a ha => lowS_bd ha, fun w a ha => lowS_c a ha w⟩
theorem div_y : Bys (.func (.func 55) #[] #[]) divV := ⟨_, rfl, fun _ _ => by kernel_rfl, fun a b s ha hb => divV_bd a b s ha hb.1, fun w a b s ha hb => Div_c a b s ha hb w⟩
theorem rem_y : Bys (.func (.func 56) #[] #[]) remV := ⟨_, rfl, fun _ _ => by kernel_rfl, fun a b s ha hb => remV_bd a b s ha hb.1, fun w a b s ha hb => Rem_c a b s ha hb w⟩
theorem div32_y : Bys (.func (.func 57) #[] #[]) div32V := ⟨_, rfl, fun _ _ => by kernel_rfl, fun a b s ha hb => div32V_bd a b s, fun w a b s ha hb => Div32_c a b s ha hb w⟩
theorem rem32_y : Bys (.func (.func 58) #[] #[]) rem32V := ⟨_, rfl, fun _ _ => by kernel_rfl, fun a b s ha hb => rem32V_bd a b s, fun w a b s ha hb => Rem32_c a b s ha hb w⟩

theorem quietly {P : Program} {f : FuncId} {args : Array Value} {W : World} {v : Value} {Q : World → Prop}
    (h : Calls P f args W fun e w' => e = .returned v ∧ W = w') (hQ : Q W) : Calls P f args W fun e w' => e = .returned v ∧ Q w' :=
  h.mono fun _ _ ⟨he, hw⟩ => ⟨he, hw ▸ hQ⟩

/-! ### What the functions that are handed back do -/
theorem not1_c {t : Int → Int → Bool} {g : Nat} {v : Value} {w : World} (hR : Row w g 45 [v]) (hv : Tests w v t) (a b : Int) (ha : B64 a) (hb : B64 b) :
    Calls Tryd.prog 63 #[.int .u64 a, .int .u64 b, .pointer (some ⟨g, 0, none⟩)] w fun e w' => e = .returned (.bool (notT t a b)) ∧ w = w' := by
  obtain ⟨k, cap, rfl, hcf, hc⟩ := hv
  unfold Opens at hcf
  have HC := Lib.hid (hc w (cel_refl _) a b ha hb)
  have c := hR.cell 0
  simp only [List.getElem?_cons_zero] at c
  clear hc
  go_enter Tryd.func63, Tryd.ntmps63
  go_wp2_with fail
  refine HC.out.mono ?_
  rintro e w' ⟨rfl, rfl⟩
  go_wp2_with fail
  go_ret
  exact ⟨rfl, rfl⟩
theorem flag1_c {t : Int → Int → Bool} {g : Nat} {v : Value} {w : World} (hR : Row w g 45 [v]) (hv : Tests w v t) (a b : Int) (ha : B64 a) (hb : B64 b) :
    Calls Tryd.prog 64 #[.int .u64 a, .int .u64 b, .pointer (some ⟨g, 0, none⟩)] w fun e w' => e = .returned (.int .u64 (flagV t a b)) ∧ w = w' := by
  obtain ⟨k, cap, rfl, hcf, hc⟩ := hv
  unfold Opens at hcf
  have HC := Lib.hid (hc w (cel_refl _) a b ha hb)
  have c := hR.cell 0
  simp only [List.getElem?_cons_zero] at c
  clear hc
  rw [flagV]
  generalize t a b = z at *
  cases z
  all_goals
    go_enter Tryd.func64, Tryd.ntmps64
    go_wp2_with fail
    refine HC.out.mono ?_
    rintro e w' ⟨rfl, rfl⟩
    go_wp2_with fail
    go_ret
    exact ⟨rfl, rfl⟩
theorem lower1_c {f : Int → Int → Int} {g : Nat} {v : Value} {w : World} (hR : Row w g 40 [v]) (hv : Does w v f) (a b : Int) (ha : B64 a) (hb : B64 b) :
    Calls Tryd.prog 67 #[.int .u64 a, .int .u64 b, .pointer (some ⟨g, 0, none⟩)] w fun e w' => e = .returned (.int .u64 (lowerV f a b)) ∧ w.grownBy w' none := by
  obtain ⟨k, cap, rfl, hcf, hbd, hc⟩ := hv
  unfold Opens at hcf
  have HC := Lib.hid (hc w (cel_refl _) a b ha hb)
  have HL := Lib.hid (fun W => lowS_c (f a b) (hbd a b ha hb) W)
  have c := hR.cell 0
  simp only [List.getElem?_cons_zero] at c
  rw [lowerV]
  generalize f a b = z at *
  clear hc
  go_enter Tryd.func67, Tryd.ntmps67
  go_wp2_with fail
  refine HC.out.mono ?_
  rintro e w' ⟨rfl, hG⟩
  go_wp2_with fail
  refine (HL.out _).mono ?_
  rintro e w' ⟨rfl, rfl⟩
  go_wp2_with fail
  go_ret
  exact ⟨rfl, hG⟩
theorem shift1_c {n : Int} {g : Nat} {w : World} (hn : 0 ≤ n ∧ n ≤ 2) (hR : Row w g 3 [.int .i64 n]) (a b : Int) (ha : B64 a) (hb : B64 b) :
    Calls Tryd.prog 65 #[.int .u64 a, .int .u64 b, .pointer (some ⟨g, 0, none⟩)] w fun e w' => e = .returned (.int .u64 (shV n a b)) ∧ w = w' := by
  have HL := Lib.hid (fun W => Shift_c a (b % 64) n ha (by have := hb.1; have := hb.2; omega) (by omega) W)
  have c := hR.cell 0
  simp only [List.getElem?_cons_zero] at c
  unfold B64 at *
  go_enter Tryd.func65, Tryd.ntmps65
  go_wp2_with fail
  refine (HL.out _).mono ?_
  rintro e w' ⟨rfl, rfl⟩
  go_wp2_with fail
  go_ret
  exact ⟨rfl, rfl⟩
theorem high1_c {sa sb : Bool} {g h : Nat} {w : World} (hR : Row w g 4 [.bool sa]) (hS : Row w h 4 [.bool sb]) (a b : Int) (ha : B64 a) (hb : B64 b) :
    Calls Tryd.prog 70 #[.int .u64 a, .int .u64 b, .pointer (some ⟨g, 0, none⟩), .pointer (some ⟨h, 0, none⟩)] w fun e w' => e = .returned (.int .u64 (hiV sa sb a b)) ∧ w = w' := by
  have HL := Lib.hid (fun W => High_c a b sa sb ha hb W)
  have c := hR.cell 0
  have d := hS.cell 0
  simp only [List.getElem?_cons_zero] at c d
  unfold B64 at *
  go_enter Tryd.func70, Tryd.ntmps70
  go_wp2_with fail
  refine (HL.out _).mono ?_
  rintro e w' ⟨rfl, rfl⟩
  go_wp2_with fail
  go_ret
  exact ⟨rfl, rfl⟩
theorem divide1_c {f : Int → Int → Bool → Int} {s : Bool} {v : Value} {g h : Nat} {w : World} (hR : Row w g 55 [v]) (hS : Row w h 4 [.bool s]) (hv : Bys v f) (a b : Int) (ha : B64 a) (hb : B64 b) :
    Calls Tryd.prog 72 #[.int .u64 a, .int .u64 b, .pointer (some ⟨g, 0, none⟩), .pointer (some ⟨h, 0, none⟩)] w fun e w' => e = .returned (.int .u64 (byV f s a b)) ∧ w = w' := by
  obtain ⟨k, rfl, hcf, hbd, hc⟩ := hv
  unfold Opens at hcf
  have HL := Lib.hid (fun W => hc W a b s ha hb)
  have c := hR.cell 0
  have d := hS.cell 0
  simp only [List.getElem?_cons_zero] at c d
  clear hc
  unfold B64 at *
  go_enter Tryd.func72, Tryd.ntmps72
  go_wp2_with fail
  refine (HL.out _).mono ?_
  rintro e w' ⟨rfl, rfl⟩
  go_wp2_with fail
  go_ret
  exact ⟨rfl, rfl⟩
theorem shift321_c {r : Int → Int} {n : Int} {v : Value} {g h : Nat} {w : World} (hn : 0 ≤ n ∧ n ≤ 2) (hR : Row w g 62 [v]) (hS : Row w h 3 [.int .i64 n]) (hv : Reads v r) (a b : Int) (ha : B64 a) (hb : B64 b) :
    Calls Tryd.prog 68 #[.int .u64 a, .int .u64 b, .pointer (some ⟨g, 0, none⟩), .pointer (some ⟨h, 0, none⟩)] w fun e w' => e = .returned (.int .u64 (sh32V r n a b)) ∧ w.grownBy w' none := by
  obtain ⟨k, rfl, hcf, hbd, hc⟩ := hv
  unfold Opens at hcf
  have HC := Lib.hid (fun W => hc W a ha)
  have HS := Lib.hid (fun W => Shift_c (r a) (b % 32) n (hbd a ha) (by have := hb.1; have := hb.2; omega) (by omega) W)
  have HL := Lib.hid (fun W => lowS_c (shiftV (r a) (b % 32) n) (shiftV_bd _ _ _ (hbd a ha)) W)
  have c := hR.cell 0
  have d := hS.cell 0
  simp only [List.getElem?_cons_zero] at c d
  clear hc
  rw [sh32V]
  generalize shiftV (r a) (b % 32) n = z at *
  generalize r a = y at *
  unfold B64 at *
  go_enter Tryd.func68, Tryd.ntmps68
  go_wp2_with fail
  go_quiet (first
    | (exact quietly (HC.out _) ⟨_, rfl⟩)
    | (go_at_call 66; exact quietly (HS.out _) ⟨_, rfl⟩)
    | (go_at_call 51; exact quietly (HL.out _) ⟨_, rfl⟩))
  go_wp2_with fail
  go_ret
  exact ⟨rfl, gr_drewN (gr_refl _ _) _⟩

/-! ### The functions that hand them back -/
/-- A call that hands back such a function. -/
def GivesD (w : World) (f : Int → Int → Int) (e : Ending) (w' : World) : Prop := ∃ v, e = .returned v ∧ Does w' v f ∧ w.grownBy w' none
def GivesT (w : World) (f : Int → Int → Bool) (e : Ending) (w' : World) : Prop := ∃ v, e = .returned v ∧ Tests w' v f ∧ w.grownBy w' none
theorem not_c {t : Int → Int → Bool} {v : Value} (w : World) (hv : Tests w v t) : Calls Tryd.prog 38 #[v] w (GivesT w (notT t)) := by
  have hmf : ∀ (fn : Fn) (first cap : Array Value) (w : World), (Instr.makeFunc fn first cap).run Tryd.prog w = .ok (.func fn first cap) w := fun _ _ _ _ => rfl
  have hv' := hv
  obtain ⟨k, cap, rfl, hop, hv2⟩ := hv'
  have HV := Lib.hid hv
  clear hv hv2
  have H0 := Lib.hid (Row.fresh w 45 [.func (.func k) #[] cap])
  go_enter Tryd.func38, Tryd.ntmps38
  go_wp2_with fail
  go_ret
  exact ⟨_, rfl, ⟨_, _, rfl, fun _ _ => by kernel_rfl, fun w' hg a b ha hb => not1_c (hg _ _ _ H0.out) (HV.out.grown ((cel_alloc _ _).trans hg)) a b ha hb⟩, gr_alloc (gr_refl _ _) _⟩
theorem flag_c {t : Int → Int → Bool} {v : Value} (w : World) (hv : Tests w v t) : Calls Tryd.prog 45 #[v] w (GivesD w (flagV t)) := by
  have hmf : ∀ (fn : Fn) (first cap : Array Value) (w : World), (Instr.makeFunc fn first cap).run Tryd.prog w = .ok (.func fn first cap) w := fun _ _ _ _ => rfl
  have hv' := hv
  obtain ⟨k, cap, rfl, hop, hv2⟩ := hv'
  have HV := Lib.hid hv
  clear hv hv2
  have H0 := Lib.hid (Row.fresh w 45 [.func (.func k) #[] cap])
  go_enter Tryd.func45, Tryd.ntmps45
  go_wp2_with fail
  go_ret
  exact ⟨_, rfl, ⟨_, _, rfl, fun _ _ => by kernel_rfl, fun a b _ _ => flag_bd t a b, fun w' hg a b ha hb => still (flag1_c (hg _ _ _ H0.out) (HV.out.grown ((cel_alloc _ _).trans hg)) a b ha hb)⟩, gr_alloc (gr_refl _ _) _⟩
theorem lower_c {f : Int → Int → Int} {v : Value} (w : World) (hv : Does w v f) : Calls Tryd.prog 48 #[v] w (GivesD w (lowerV f)) := by
  have hmf : ∀ (fn : Fn) (first cap : Array Value) (w : World), (Instr.makeFunc fn first cap).run Tryd.prog w = .ok (.func fn first cap) w := fun _ _ _ _ => rfl
  have hv' := hv
  obtain ⟨k, cap, rfl, hop, hbd, hv2⟩ := hv'
  have HV := Lib.hid hv
  have HB := Lib.hid hbd
  clear hv hv2 hbd
  have H0 := Lib.hid (Row.fresh w 40 [.func (.func k) #[] cap])
  go_enter Tryd.func48, Tryd.ntmps48
  go_wp2_with fail
  go_ret
  exact ⟨_, rfl, ⟨_, _, rfl, fun _ _ => by kernel_rfl, fun a b ha hb => lowS_bd (HB.out a b ha hb), fun w' hg a b ha hb => lower1_c (hg _ _ _ H0.out) (HV.out.grown ((cel_alloc _ _).trans hg)) a b ha hb⟩, gr_alloc (gr_refl _ _) _⟩
theorem shift_c (n : Int) (hn : 0 ≤ n ∧ n ≤ 2) (w : World) : Calls Tryd.prog 46 #[.int .i64 n] w (GivesD w (shV n)) := by
  have hmf : ∀ (fn : Fn) (first cap : Array Value) (w : World), (Instr.makeFunc fn first cap).run Tryd.prog w = .ok (.func fn first cap) w := fun _ _ _ _ => rfl
  have H0 := Lib.hid (Row.fresh w 3 [.int .i64 n])
  go_enter Tryd.func46, Tryd.ntmps46
  go_wp2_with fail
  go_ret
  exact ⟨_, rfl, ⟨_, _, rfl, fun _ _ => by kernel_rfl, fun a b ha hb => shiftV_bd _ _ _ ha, fun w' hg a b ha hb => still (shift1_c hn (hg _ _ _ H0.out) a b ha hb)⟩, gr_alloc (gr_refl _ _) _⟩
end Go.Proofs.YtmabfocpcbaniaaDoor
