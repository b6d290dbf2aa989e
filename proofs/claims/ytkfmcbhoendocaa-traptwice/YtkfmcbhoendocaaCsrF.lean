/-
  The small functions of package csr: contracts over the program's translation.
  Conditions: the arguments are numbers of their kinds.
-/
import Derived.Test.YtkfmcbhoendocaaCsrG
namespace Go.Proofs.Ytkfmcbhoendocaa
open Go Go.RowKit W M D A C
set_option linter.unusedVariables false

/-- The value is a function of two numbers that, called in any world in which what stood stands, answers as f does. -/
def Does (w : World) (v : Value) (f : Int → Int → Int) : Prop :=
  ∃ k cap, v = .func (.func k) #[] cap ∧ Opens k ∧ (∀ a b, B64 a → B64 b → B64 (f a b)) ∧ ∀ w', Cel w w' → ∀ a b, B64 a → B64 b →
    Calls Try.prog k (#[.int .u64 a, .int .u64 b] ++ cap) w' fun e w'' => e = .returned (.int .u64 (f a b)) ∧ w' = w''
theorem Does.grown {w w' : World} {v : Value} {f : Int → Int → Int} (h : Does w v f) (hg : Cel w w') : Does w' v f := by
  obtain ⟨k, cap, h1, hc, hb, h2⟩ := h
  exact ⟨k, cap, h1, hc, hb, fun w'' hg' => h2 w'' (hg.trans hg')⟩
/-- The value is a function that tells where field j of a row stands. -/
def Places (v : Value) (j : Nat) : Prop :=
  ∃ k, v = .func (.func k) #[] #[] ∧ Opens k ∧ ∀ w g, Calls Try.prog k #[.pointer (some ⟨g, 0, none⟩)] w fun e w' => e = .returned (.pointer (some ⟨g, j, none⟩)) ∧ w = w'
/-- The value is a function that tells a counter. -/
def Tells (v : Value) (f : Cs → Int → Int) : Prop :=
  ∃ k, v = .func (.func k) #[] #[] ∧ Opens k ∧ ∀ w c t, C.Good c → B64 t → Calls Try.prog k #[vC c, .int .u64 t] w fun e w' => e = .returned (.int .u64 (f c t)) ∧ w.grownBy w' none
theorem vC_12 (a0 a1 a2 a3 a4 a5 a6 a7 a8 a9 a10 a11 : Int) : vC [a0, a1, a2, a3, a4, a5, a6, a7, a8, a9, a10, a11] = .agg #[.int .u64 a0, .int .u64 a1, .int .u64 a2, .int .u64 a3, .int .u64 a4, .int .u64 a5, .int .u64 a6, .int .u64 a7, .int .u64 a8, .int .u64 a9, .int .u64 a10, .int .u64 a11] := rfl

/-! ### Where a field stands -/
theorem place0_c (w : World) (g : Nat) : Calls Try.prog 115 #[.pointer (some ⟨g, 0, none⟩)] w fun e w' => e = .returned (.pointer (some ⟨g, 0, none⟩)) ∧ w = w' := by
  go_enter Try.func115, Try.ntmps115
  go_wp2_with fail
  go_ret
  exact ⟨rfl, rfl⟩
theorem place0_p : Places (.func (.func 115) #[] #[]) 0 := ⟨_, rfl, fun _ _ => by kernel_rfl, fun w g => place0_c w g⟩
theorem place1_c (w : World) (g : Nat) : Calls Try.prog 117 #[.pointer (some ⟨g, 0, none⟩)] w fun e w' => e = .returned (.pointer (some ⟨g, 1, none⟩)) ∧ w = w' := by
  go_enter Try.func117, Try.ntmps117
  go_wp2_with fail
  go_ret
  exact ⟨rfl, rfl⟩
theorem place1_p : Places (.func (.func 117) #[] #[]) 1 := ⟨_, rfl, fun _ _ => by kernel_rfl, fun w g => place1_c w g⟩
theorem place2_c (w : World) (g : Nat) : Calls Try.prog 119 #[.pointer (some ⟨g, 0, none⟩)] w fun e w' => e = .returned (.pointer (some ⟨g, 2, none⟩)) ∧ w = w' := by
  go_enter Try.func119, Try.ntmps119
  go_wp2_with fail
  go_ret
  exact ⟨rfl, rfl⟩
theorem place2_p : Places (.func (.func 119) #[] #[]) 2 := ⟨_, rfl, fun _ _ => by kernel_rfl, fun w g => place2_c w g⟩
theorem place3_c (w : World) (g : Nat) : Calls Try.prog 121 #[.pointer (some ⟨g, 0, none⟩)] w fun e w' => e = .returned (.pointer (some ⟨g, 3, none⟩)) ∧ w = w' := by
  go_enter Try.func121, Try.ntmps121
  go_wp2_with fail
  go_ret
  exact ⟨rfl, rfl⟩
theorem place3_p : Places (.func (.func 121) #[] #[]) 3 := ⟨_, rfl, fun _ _ => by kernel_rfl, fun w g => place3_c w g⟩
theorem place4_c (w : World) (g : Nat) : Calls Try.prog 122 #[.pointer (some ⟨g, 0, none⟩)] w fun e w' => e = .returned (.pointer (some ⟨g, 4, none⟩)) ∧ w = w' := by
  go_enter Try.func122, Try.ntmps122
  go_wp2_with fail
  go_ret
  exact ⟨rfl, rfl⟩
theorem place4_p : Places (.func (.func 122) #[] #[]) 4 := ⟨_, rfl, fun _ _ => by kernel_rfl, fun w g => place4_c w g⟩
theorem place5_c (w : World) (g : Nat) : Calls Try.prog 124 #[.pointer (some ⟨g, 0, none⟩)] w fun e w' => e = .returned (.pointer (some ⟨g, 5, none⟩)) ∧ w = w' := by
  go_enter Try.func124, Try.ntmps124
  go_wp2_with fail
  go_ret
  exact ⟨rfl, rfl⟩
theorem place5_p : Places (.func (.func 124) #[] #[]) 5 := ⟨_, rfl, fun _ _ => by kernel_rfl, fun w g => place5_c w g⟩
theorem place6_c (w : World) (g : Nat) : Calls Try.prog 125 #[.pointer (some ⟨g, 0, none⟩)] w fun e w' => e = .returned (.pointer (some ⟨g, 6, none⟩)) ∧ w = w' := by
  go_enter Try.func125, Try.ntmps125
  go_wp2_with fail
  go_ret
  exact ⟨rfl, rfl⟩
theorem place6_p : Places (.func (.func 125) #[] #[]) 6 := ⟨_, rfl, fun _ _ => by kernel_rfl, fun w g => place6_c w g⟩
theorem place7_c (w : World) (g : Nat) : Calls Try.prog 126 #[.pointer (some ⟨g, 0, none⟩)] w fun e w' => e = .returned (.pointer (some ⟨g, 7, none⟩)) ∧ w = w' := by
  go_enter Try.func126, Try.ntmps126
  go_wp2_with fail
  go_ret
  exact ⟨rfl, rfl⟩
theorem place7_p : Places (.func (.func 126) #[] #[]) 7 := ⟨_, rfl, fun _ _ => by kernel_rfl, fun w g => place7_c w g⟩
theorem place8_c (w : World) (g : Nat) : Calls Try.prog 127 #[.pointer (some ⟨g, 0, none⟩)] w fun e w' => e = .returned (.pointer (some ⟨g, 8, none⟩)) ∧ w = w' := by
  go_enter Try.func127, Try.ntmps127
  go_wp2_with fail
  go_ret
  exact ⟨rfl, rfl⟩
theorem place8_p : Places (.func (.func 127) #[] #[]) 8 := ⟨_, rfl, fun _ _ => by kernel_rfl, fun w g => place8_c w g⟩
theorem place9_c (w : World) (g : Nat) : Calls Try.prog 129 #[.pointer (some ⟨g, 0, none⟩)] w fun e w' => e = .returned (.pointer (some ⟨g, 9, none⟩)) ∧ w = w' := by
  go_enter Try.func129, Try.ntmps129
  go_wp2_with fail
  go_ret
  exact ⟨rfl, rfl⟩
theorem place9_p : Places (.func (.func 129) #[] #[]) 9 := ⟨_, rfl, fun _ _ => by kernel_rfl, fun w g => place9_c w g⟩

/-! ### What a register holds behind a write -/
theorem all_c (a b : Int) (ha : B64 a) (hb : B64 b) (w : World) : Calls Try.prog 123 #[.int .u64 a, .int .u64 b] w fun e w' => e = .returned (.int .u64 (allV a b)) ∧ w = w' := by
  unfold B64 at *
  go_enter Try.func123, Try.ntmps123
  go_wp2_with fail
  go_ret
  exact ⟨ret_int rfl, rfl⟩
theorem all_d (w : World) : Does w (.func (.func 123) #[] #[]) allV := ⟨_, _, rfl, fun _ _ => by kernel_rfl, fun a b ha hb => hb, fun w' _ a b ha hb => all_c a b ha hb w'⟩
theorem stat_c (a b : Int) (ha : B64 a) (hb : B64 b) (w : World) : Calls Try.prog 116 #[.int .u64 a, .int .u64 b] w fun e w' => e = .returned (.int .u64 (statV a b)) ∧ w = w' := by
  have h1 := and_bd hb (lit_bd 786722 (by decide))
  unfold andV at h1
  unfold B64 at *
  go_enter Try.func116, Try.ntmps116
  go_wp2_with fail
  go_ret
  exact ⟨ret_int rfl, rfl⟩
theorem stat_d (w : World) : Does w (.func (.func 116) #[] #[]) statV := ⟨_, _, rfl, fun _ _ => by kernel_rfl, fun a b ha hb => stat_bd (a := a) hb, fun w' _ a b ha hb => stat_c a b ha hb w'⟩
theorem ip_c (a b : Int) (ha : B64 a) (hb : B64 b) (w : World) : Calls Try.prog 128 #[.int .u64 a, .int .u64 b] w fun e w' => e = .returned (.int .u64 (ipV a b)) ∧ w = w' := by
  have h1 := and_bd hb (lit_bd 2 (by decide))
  have h2 := not_bd ha (lit_bd 2 (by decide))
  unfold andV at h1
  unfold notV at h2
  unfold B64 at *
  go_enter Try.func128, Try.ntmps128
  go_wp2_with fail
  go_ret
  exact ⟨ret_int rfl, rfl⟩
theorem ip_d (w : World) : Does w (.func (.func 128) #[] #[]) ipV := ⟨_, _, rfl, fun _ _ => by kernel_rfl, fun a b ha hb => ip_bd ha hb, fun w' _ a b ha hb => ip_c a b ha hb w'⟩
set_option maxHeartbeats 1000000 in
theorem satp_c (a b : Int) (ha : B64 a) (hb : B64 b) (w : World) : Calls Try.prog 130 #[.int .u64 a, .int .u64 b] w fun e w' => e = .returned (.int .u64 (satpV a b)) ∧ w = w' := by
  unfold B64 at *
  unfold satpV
  by_cases h0 : b / 1152921504606846976 = 0
  · rw [if_pos (Or.inl h0)]
    go_enter Try.func130, Try.ntmps130
    go_wp2_with fail
    go_ret
    exact ⟨rfl, rfl⟩
  have d0 : (b / 1152921504606846976 == 0) = false := by simpa using h0
  by_cases h8 : b / 1152921504606846976 = 8
  · rw [if_pos (Or.inr h8)]
    go_enter Try.func130, Try.ntmps130
    go_wp2_with fail
    go_ret
    exact ⟨rfl, rfl⟩
  have d8 : (b / 1152921504606846976 == 8) = false := by simpa using h8
  rw [if_neg (by omega)]
  go_enter Try.func130, Try.ntmps130
  go_wp2_with fail
  go_ret
  exact ⟨rfl, rfl⟩
theorem satp_d (w : World) : Does w (.func (.func 130) #[] #[]) satpV := ⟨_, _, rfl, fun _ _ => by kernel_rfl, fun a b ha hb => satp_bd ha hb, fun w' _ a b ha hb => satp_c a b ha hb w'⟩
theorem only1_c {m : Int} {g : Nat} {w : World} (hm : B64 m) (hR : Row w g 22 [.int .u64 m]) (a b : Int) (ha : B64 a) (hb : B64 b) :
    Calls Try.prog 138 #[.int .u64 a, .int .u64 b, .pointer (some ⟨g, 0, none⟩)] w fun e w' => e = .returned (.int .u64 (onlyV m a b)) ∧ w = w' := by
  have c := hR.cell 0
  simp only [List.getElem?_cons_zero] at c
  unfold B64 at *
  go_enter Try.func138, Try.ntmps138
  go_wp2_with fail
  go_ret
  exact ⟨ret_int rfl, rfl⟩
def GivesD (w : World) (f : Int → Int → Int) (e : Ending) (w' : World) : Prop := ∃ v, e = .returned v ∧ Does w' v f ∧ w.grownBy w' none
theorem only_c (m : Int) (hm : B64 m) (w : World) : Calls Try.prog 118 #[.int .u64 m] w (GivesD w (onlyV m)) := by
  have HR := Lib.hid (Row.fresh w 22 [.int .u64 m])
  have HM := Lib.hid hm
  unfold B64 at hm
  go_enter Try.func118, Try.ntmps118
  go_wp2_with fail
  go_ret
  exact ⟨_, rfl, ⟨_, _, rfl, fun _ _ => by kernel_rfl, fun a b _ hb => only_bd (a := a) HM.out hb, fun w' hg a b ha hb => only1_c HM.out (hg _ _ _ HR.out) a b ha hb⟩, gr_alloc (gr_refl _ _) _⟩
theorem butFor_c (m r : Int) (hm : B64 m) (hr : B64 r) (hx : bits .xor .u64 IntKind.u64.max m = r) (w : World) : Calls Try.prog 120 #[.int .u64 m] w (GivesD w (onlyV r)) := by
  have HO := Lib.hid (fun W => only_c r hr W)
  unfold B64 at hm
  go_enter Try.func120, Try.ntmps120
  go_wp2_with fail
  refine (HO.out _).mono ?_
  rintro e w' ⟨v, rfl, hD, hG⟩
  go_wp2_with fail
  go_ret
  exact ⟨v, rfl, hD, hG⟩

end Go.Proofs.Ytkfmcbhoendocaa
