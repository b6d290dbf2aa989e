/-
  The functions that package alu makes of two: contracts over the program's translation.
  Conditions: the arguments are numbers of their kinds.
-/
import Derived.Test.YtmabfocpcbaniaaDoorAluG
namespace Go.Proofs.YtmabfocpcbaniaaDoor
open Go Go.RowKit W M D A
set_option linter.unusedVariables false

theorem fresh2 (w : World) (o : Obj) (t : TypeId) (l : List Value) : Row ((w.alloc o).alloc (.cells l.toArray t)) (w.heap.size + 1) t l := by
  have h := Row.fresh (w.alloc o) t l
  rwa [show (w.alloc o).heap.size = w.heap.size + 1 from by simp] at h
theorem high_c (sa sb : Bool) (w : World) : Calls Tryd.prog 53 #[.bool sa, .bool sb] w (GivesD w (hiV sa sb)) := by
  have hmf : ∀ (fn : Fn) (first cap : Array Value) (w : World), (Instr.makeFunc fn first cap).run Tryd.prog w = .ok (.func fn first cap) w := fun _ _ _ _ => rfl
  have H0 := Lib.hid ((Row.fresh w 4 [.bool sa]).alloc (.cells #[.bool sb] 4))
  have H1 := Lib.hid (fresh2 w (.cells #[.bool sa] 4) 4 [.bool sb])
  simp only [List.toArray] at H0 H1
  go_enter Tryd.func53, Tryd.ntmps53
  go_wp2_with fail
  go_ret
  exact ⟨_, rfl, ⟨_, _, rfl, fun _ _ => by kernel_rfl, fun a b ha hb => highV_bd _ _ _ _, fun w' hg a b ha hb => still (high1_c (hg _ _ _ H0.out) (hg _ _ _ H1.out) a b ha hb)⟩, gr_alloc (gr_alloc (gr_refl _ _) _) _⟩
theorem divide_c {f : Int → Int → Bool → Int} {v : Value} (s : Bool) (hv : Bys v f) (w : World) : Calls Tryd.prog 54 #[v, .bool s] w (GivesD w (byV f s)) := by
  have hmf : ∀ (fn : Fn) (first cap : Array Value) (w : World), (Instr.makeFunc fn first cap).run Tryd.prog w = .ok (.func fn first cap) w := fun _ _ _ _ => rfl
  have hv' := hv
  obtain ⟨k, rfl, hop, hbd, hv2⟩ := hv'
  have HV := Lib.hid hv
  have HB := Lib.hid hbd
  clear hv hv2 hbd
  have H0 := Lib.hid ((Row.fresh w 55 [.func (.func k) #[] #[]]).alloc (.cells #[.bool s] 4))
  have H1 := Lib.hid (fresh2 w (.cells #[.func (.func k) #[] #[]] 55) 4 [.bool s])
  simp only [List.toArray] at H0 H1
  go_enter Tryd.func54, Tryd.ntmps54
  go_wp2_with fail
  go_ret
  exact ⟨_, rfl, ⟨_, _, rfl, fun _ _ => by kernel_rfl, fun a b ha hb => HB.out a b s ha hb, fun w' hg a b ha hb => still (divide1_c (hg _ _ _ H0.out) (hg _ _ _ H1.out) HV.out a b ha hb)⟩, gr_alloc (gr_alloc (gr_refl _ _) _) _⟩
theorem shift32_c {r : Int → Int} {v : Value} (n : Int) (hn : 0 ≤ n ∧ n ≤ 2) (hv : Reads v r) (w : World) : Calls Tryd.prog 49 #[v, .int .i64 n] w (GivesD w (sh32V r n)) := by
  have hmf : ∀ (fn : Fn) (first cap : Array Value) (w : World), (Instr.makeFunc fn first cap).run Tryd.prog w = .ok (.func fn first cap) w := fun _ _ _ _ => rfl
  have hv' := hv
  obtain ⟨k, rfl, hop, hbd, hv2⟩ := hv'
  have HV := Lib.hid hv
  have HB := Lib.hid hbd
  clear hv hv2 hbd
  have H0 := Lib.hid ((Row.fresh w 62 [.func (.func k) #[] #[]]).alloc (.cells #[.int .i64 n] 3))
  have H1 := Lib.hid (fresh2 w (.cells #[.func (.func k) #[] #[]] 62) 3 [.int .i64 n])
  simp only [List.toArray] at H0 H1
  go_enter Tryd.func49, Tryd.ntmps49
  go_wp2_with fail
  go_ret
  exact ⟨_, rfl, ⟨_, _, rfl, fun _ _ => by kernel_rfl, fun a b ha hb => lowS_bd (shiftV_bd _ _ _ (HB.out a ha)), fun w' hg a b ha hb => shift321_c hn (hg _ _ _ H0.out) (hg _ _ _ H1.out) HV.out a b ha hb⟩, gr_alloc (gr_alloc (gr_refl _ _) _) _⟩
end Go.Proofs.YtmabfocpcbaniaaDoor
