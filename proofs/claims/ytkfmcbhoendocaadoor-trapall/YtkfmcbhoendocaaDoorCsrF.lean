/-
  The small functions of package csr: contracts over the program's translation.
  Conditions: the arguments are numbers of their kinds.
-/
import Derived.Test.YtkfmcbhoendocaaDoorCsrG
namespace Go.Proofs.YtkfmcbhoendocaaDoor
open Go Go.RowKit W M D A C
set_option linter.unusedVariables false

/-- The value is a function of two numbers that, called in any world in which what stood stands, answers as f does. -/
def Does (w : World) (v : Value) (f : Int → Int → Int) : Prop :=
  ∃ k cap, v = .func (.func k) #[] cap ∧ Opens k ∧ (∀ a b, B64 a → B64 b → B64 (f a b)) ∧ ∀ w', Cel w w' → ∀ a b, B64 a → B64 b →
    Calls Tryd.prog k (#[.int .u64 a, .int .u64 b] ++ cap) w' fun e w'' => e = .returned (.int .u64 (f a b)) ∧ w' = w''
theorem Does.grown {w w' : World} {v : Value} {f : Int → Int → Int} (h : Does w v f) (hg : Cel w w') : Does w' v f := by
  obtain ⟨k, cap, h1, hc, hb, h2⟩ := h
  exact ⟨k, cap, h1, hc, hb, fun w'' hg' => h2 w'' (hg.trans hg')⟩
/-- The value is a function that tells where field j of a row stands. -/
def Places (v : Value) (j : Nat) : Prop :=
  ∃ k, v = .func (.func k) #[] #[] ∧ Opens k ∧ ∀ w g, Calls Tryd.prog k #[.pointer (some ⟨g, 0, none⟩)] w fun e w' => e = .returned (.pointer (some ⟨g, j, none⟩)) ∧ w = w'
/-- The value is a function that tells a counter. -/
def Tells (v : Value) (f : Cs → Int → Int) : Prop :=
  ∃ k, v = .func (.func k) #[] #[] ∧ Opens k ∧ ∀ w c t, C.Good c → B64 t → Calls Tryd.prog k #[vC c, .int .u64 t] w fun e w' => e = .returned (.int .u64 (f c t)) ∧ w.grownBy w' none
theorem vC_12 (a0 a1 a2 a3 a4 a5 a6 a7 a8 a9 a10 a11 : Int) : vC [a0, a1, a2, a3, a4, a5, a6, a7, a8, a9, a10, a11] = .agg #[.int .u64 a0, .int .u64 a1, .int .u64 a2, .int .u64 a3, .int .u64 a4, .int .u64 a5, .int .u64 a6, .int .u64 a7, .int .u64 a8, .int .u64 a9, .int .u64 a10, .int .u64 a11] := rfl

/-! ### Where a field stands -/
theorem place0_c (w : World) (g : Nat) : Calls Tryd.prog 28 #[.pointer (some ⟨g, 0, none⟩)] w fun e w' => e = .returned (.pointer (some ⟨g, 0, none⟩)) ∧ w = w' := by
  go_enter Tryd.func28, Tryd.ntmps28
  go_wp2_with fail
  go_ret
  exact ⟨rfl, rfl⟩
theorem place0_p : Places (.func (.func 28) #[] #[]) 0 := ⟨_, rfl, fun _ _ => by kernel_rfl, fun w g => place0_c w g⟩
theorem place1_c (w : World) (g : Nat) : Calls Tryd.prog 30 #[.pointer (some ⟨g, 0, none⟩)] w fun e w' => e = .returned (.pointer (some ⟨g, 1, none⟩)) ∧ w = w' := by
  go_enter Tryd.func30, Tryd.ntmps30
  go_wp2_with fail
  go_ret
  exact ⟨rfl, rfl⟩
theorem place1_p : Places (.func (.func 30) #[] #[]) 1 := ⟨_, rfl, fun _ _ => by kernel_rfl, fun w g => place1_c w g⟩
theorem place2_c (w : World) (g : Nat) : Calls Tryd.prog 32 #[.pointer (some ⟨g, 0, none⟩)] w fun e w' => e = .returned (.pointer (some ⟨g, 2, none⟩)) ∧ w = w' := by
  go_enter Tryd.func32, Tryd.ntmps32
  go_wp2_with fail
  go_ret
  exact ⟨rfl, rfl⟩
theorem place2_p : Places (.func (.func 32) #[] #[]) 2 := ⟨_, rfl, fun _ _ => by kernel_rfl, fun w g => place2_c w g⟩
theorem place3_c (w : World) (g : Nat) : Calls Tryd.prog 34 #[.pointer (some ⟨g, 0, none⟩)] w fun e w' => e = .returned (.pointer (some ⟨g, 3, none⟩)) ∧ w = w' := by
  go_enter Tryd.func34, Tryd.ntmps34
  go_wp2_with fail
  go_ret
  exact ⟨rfl, rfl⟩
theorem place3_p : Places (.func (.func 34) #[] #[]) 3 := ⟨_, rfl, fun _ _ => by kernel_rfl, fun w g => place3_c w g⟩
theorem place4_c (w : World) (g : Nat) : Calls Tryd.prog 35 #[.pointer (some ⟨g, 0, none⟩)] w fun e w' => e = .returned (.pointer (some ⟨g, 4, none⟩)) ∧ w = w' := by
  go_enter Tryd.func35, Tryd.ntmps35
  go_wp2_with fail
  go_ret
  exact ⟨rfl, rfl⟩
theorem place4_p : Places (.func (.func 35) #[] #[]) 4 := ⟨_, rfl, fun _ _ => by kernel_rfl, fun w g => place4_c w g⟩
theorem place5_c (w : World) (g : Nat) : Calls Tryd.prog 37 #[.pointer (some ⟨g, 0, none⟩)] w fun e w' => e = .returned (.pointer (some ⟨g, 5, none⟩)) ∧ w = w' := by
  go_enter Tryd.func37, Tryd.ntmps37
  go_wp2_with fail
  go_ret
  exact ⟨rfl, rfl⟩
theorem place5_p : Places (.func (.func 37) #[] #[]) 5 := ⟨_, rfl, fun _ _ => by kernel_rfl, fun w g => place5_c w g⟩
theorem place6_c (w : World) (g : Nat) : Calls Tryd.prog 38 #[.pointer (some ⟨g, 0, none⟩)] w fun e w' => e = .returned (.pointer (some ⟨g, 6, none⟩)) ∧ w = w' := by
  go_enter Tryd.func38, Tryd.ntmps38
  go_wp2_with fail
  go_ret
  exact ⟨rfl, rfl⟩
theorem place6_p : Places (.func (.func 38) #[] #[]) 6 := ⟨_, rfl, fun _ _ => by kernel_rfl, fun w g => place6_c w g⟩
theorem place7_c (w : World) (g : Nat) : Calls Tryd.prog 39 #[.pointer (some ⟨g, 0, none⟩)] w fun e w' => e = .returned (.pointer (some ⟨g, 7, none⟩)) ∧ w = w' := by
  go_enter Tryd.func39, Tryd.ntmps39
  go_wp2_with fail
  go_ret
  exact ⟨rfl, rfl⟩
theorem place7_p : Places (.func (.func 39) #[] #[]) 7 := ⟨_, rfl, fun _ _ => by kernel_rfl, fun w g => place7_c w g⟩
theorem place8_c (w : World) (g : Nat) : Calls Tryd.prog 40 #[.pointer (some ⟨g, 0, none⟩)] w fun e w' => e = .returned (.pointer (some ⟨g, 8, none⟩)) ∧ w = w' := by
  go_enter Tryd.func40, Tryd.ntmps40
  go_wp2_with fail
  go_ret
  exact ⟨rfl, rfl⟩
theorem place8_p : Places (.func (.func 40) #[] #[]) 8 := ⟨_, rfl, fun _ _ => by kernel_rfl, fun w g => place8_c w g⟩
theorem place9_c (w : World) (g : Nat) : Calls Tryd.prog 42 #[.pointer (some ⟨g, 0, none⟩)] w fun e w' => e = .returned (.pointer (some ⟨g, 9, none⟩)) ∧ w = w' := by
  go_enter Tryd.func42, Tryd.ntmps42
  go_wp2_with fail
  go_ret
  exact ⟨rfl, rfl⟩
theorem place9_p : Places (.func (.func 42) #[] #[]) 9 := ⟨_, rfl, fun _ _ => by kernel_rfl, fun w g => place9_c w g⟩

/-! ### What a register holds behind a write -/
theorem all_c (a b : Int) (ha : B64 a) (hb : B64 b) (w : World) : Calls Tryd.prog 36 #[.int .u64 a, .int .u64 b] w fun e w' => e = .returned (.int .u64 (allV a b)) ∧ w = w' := by
  unfold B64 at *
  go_enter Tryd.func36, Tryd.ntmps36
  go_wp2_with fail
  go_ret
  exact ⟨ret_int rfl, rfl⟩
theorem all_d (w : World) : Does w (.func (.func 36) #[] #[]) allV := ⟨_, _, rfl, fun _ _ => by kernel_rfl, fun a b ha hb => hb, fun w' _ a b ha hb => all_c a b ha hb w'⟩
theorem stat_c (a b : Int) (ha : B64 a) (hb : B64 b) (w : World) : Calls Tryd.prog 29 #[.int .u64 a, .int .u64 b] w fun e w' => e = .returned (.int .u64 (statV a b)) ∧ w = w' := by
  have h1 := and_bd hb (lit_bd 786722 (by decide))
  unfold andV at h1
  unfold B64 at *
  go_enter Tryd.func29, Tryd.ntmps29
  go_wp2_with fail
  go_ret
  exact ⟨ret_int rfl, rfl⟩
theorem stat_d (w : World) : Does w (.func (.func 29) #[] #[]) statV := ⟨_, _, rfl, fun _ _ => by kernel_rfl, fun a b ha hb => stat_bd (a := a) hb, fun w' _ a b ha hb => stat_c a b ha hb w'⟩
theorem ip_c (a b : Int) (ha : B64 a) (hb : B64 b) (w : World) : Calls Tryd.prog 41 #[.int .u64 a, .int .u64 b] w fun e w' => e = .returned (.int .u64 (ipV a b)) ∧ w = w' := by
  have h1 := and_bd hb (lit_bd 2 (by decide))
  have h2 := not_bd ha (lit_bd 2 (by decide))
  unfold andV at h1
  unfold notV at h2
  unfold B64 at *
  go_enter Tryd.func41, Tryd.ntmps41
  go_wp2_with fail
  go_ret
  exact ⟨ret_int rfl, rfl⟩
theorem ip_d (w : World) : Does w (.func (.func 41) #[] #[]) ipV := ⟨_, _, rfl, fun _ _ => by kernel_rfl, fun a b ha hb => ip_bd ha hb, fun w' _ a b ha hb => ip_c a b ha hb w'⟩
set_option maxHeartbeats 1000000 in
theorem satp_c (a b : Int) (ha : B64 a) (hb : B64 b) (w : World) : Calls Tryd.prog 43 #[.int .u64 a, .int .u64 b] w fun e w' => e = .returned (.int .u64 (satpV a b)) ∧ w = w' := by
  unfold B64 at *
  unfold satpV
  by_cases h0 : b / 1152921504606846976 = 0
  · rw [if_pos (Or.inl h0)]
    go_enter Tryd.func43, Tryd.ntmps43
    go_wp2_with fail
    go_ret
    exact ⟨rfl, rfl⟩
  have d0 : (b / 1152921504606846976 == 0) = false := by simpa using h0
  by_cases h8 : b / 1152921504606846976 = 8
  · rw [if_pos (Or.inr h8)]
    go_enter Tryd.func43, Tryd.ntmps43
    go_wp2_with fail
    go_ret
    exact ⟨rfl, rfl⟩
  have d8 : (b / 1152921504606846976 == 8) = false := by simpa using h8
  rw [if_neg (by omega)]
  go_enter Tryd.func43, Tryd.ntmps43
  go_wp2_with fail
  go_ret
  exact ⟨rfl, rfl⟩
theorem satp_d (w : World) : Does w (.func (.func 43) #[] #[]) satpV := ⟨_, _, rfl, fun _ _ => by kernel_rfl, fun a b ha hb => satp_bd ha hb, fun w' _ a b ha hb => satp_c a b ha hb w'⟩
theorem only1_c {m : Int} {g : Nat} {w : World} (hm : B64 m) (hR : Row w g 22 [.int .u64 m]) (a b : Int) (ha : B64 a) (hb : B64 b) :
    Calls Tryd.prog 44 #[.int .u64 a, .int .u64 b, .pointer (some ⟨g, 0, none⟩)] w fun e w' => e = .returned (.int .u64 (onlyV m a b)) ∧ w = w' := by
  have c := hR.cell 0
  simp only [List.getElem?_cons_zero] at c
  unfold B64 at *
  go_enter Tryd.func44, Tryd.ntmps44
  go_wp2_with fail
  go_ret
  exact ⟨ret_int rfl, rfl⟩
def GivesD (w : World) (f : Int → Int → Int) (e : Ending) (w' : World) : Prop := ∃ v, e = .returned v ∧ Does w' v f ∧ w.grownBy w' none
theorem only_c (m : Int) (hm : B64 m) (w : World) : Calls Tryd.prog 31 #[.int .u64 m] w (GivesD w (onlyV m)) := by
  have HR := Lib.hid (Row.fresh w 22 [.int .u64 m])
  have HM := Lib.hid hm
  unfold B64 at hm
  go_enter Tryd.func31, Tryd.ntmps31
  go_wp2_with fail
  go_ret
  exact ⟨_, rfl, ⟨_, _, rfl, fun _ _ => by kernel_rfl, fun a b _ hb => only_bd (a := a) HM.out hb, fun w' hg a b ha hb => only1_c HM.out (hg _ _ _ HR.out) a b ha hb⟩, gr_alloc (gr_refl _ _) _⟩
theorem butFor_c (m r : Int) (hm : B64 m) (hr : B64 r) (hx : bits .xor .u64 IntKind.u64.max m = r) (w : World) : Calls Tryd.prog 33 #[.int .u64 m] w (GivesD w (onlyV r)) := by
  have HO := Lib.hid (fun W => only_c r hr W)
  unfold B64 at hm
  go_enter Tryd.func33, Tryd.ntmps33
  go_wp2_with fail
  refine (HO.out _).mono ?_
  rintro e w' ⟨v, rfl, hD, hG⟩
  go_wp2_with fail
  go_ret
  exact ⟨v, rfl, hD, hG⟩

end Go.Proofs.YtkfmcbhoendocaaDoor
