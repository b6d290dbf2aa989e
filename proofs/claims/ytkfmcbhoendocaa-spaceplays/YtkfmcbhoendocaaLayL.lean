/-
  The head of layer 13's statements: the document's example (shown): a contract over the program's translation.
  What stands while a statement of layer 13 goes on, of a space without what keeps leaves; contracts carried over worlds.
  Conditions: each part's own: the arguments are numbers of their kinds; the tables hold what the program's text lays.
-/
import Derived.Test.YtkfmcbhoendocaaLayH
import Derived.Test.YtkfmcbhoendocaaLayB
import Derived.Test.YtkfmcbhoendocaaWalkQ
import Derived.Test.YtkfmcbhoendocaaLayS
section
namespace Go.Proofs.Ytkfmcbhoendocaa
open Go Go.RowKit W M D A C P K
set_option linter.unusedVariables false

def c0 : Cs := [0, 0, 0, 0, 0, 0, 0, 0, 0, 0, 0, 0]
theorem c0_good : C.Good c0 := by unfold c0; exact good12 (by unfold B64; omega) (by unfold B64; omega) (by unfold B64; omega) (by unfold B64; omega) (by unfold B64; omega) (by unfold B64; omega) (by unfold B64; omega) (by unfold B64; omega) (by unfold B64; omega) (by unfold B64; omega) (by unfold B64; omega) (by unfold B64; omega)
def r0 : S.Ans := ⟨K.foundV 0 0 false, [2147483649, 2147483650, 2147483651, 2147483652], [], 0⟩
def r1 : S.Ans := ⟨K.foundV 0 0 false, [2147483648, 2147483649, 2147483650, 2147483651, 2147483652, 2147483653, 2147483654, 2147483655], [], 0⟩
theorem r0_is : S.realsV (List.replicate 4096 0) 0 (gC c0 9) (gC c0 0) 1 2 2147483649 (4 : Nat) [] 0 = r0 := by kernel_rfl
theorem r1_is : S.realsV (S.storeX (List.replicate 4096 0) r0.all 7) 0 (gC c0 9) (gC c0 0) 1 1 2147483648 (8 : Nat) [] 0 = r1 := by kernel_rfl
theorem x1_is : S.loadX (S.storeX (List.replicate 4096 0) r0.all 7) r1.all = 1792 := by kernel_rfl
theorem shown13_c (w : World) : Calls Try.prog 33 #[] w fun e w' => e = .returned (.bool true) ∧ w.grownBy w' none := by
  have ST := Lib.hid (fun pm gm B W hW => SStore_c pm gm (List.replicate 4096 0) c0 c0_good 1 2147483649 4 7 (by unfold I64; omega) (by unfold B64; omega) (by omega) (by unfold B64; omega) B none 0 0 [] W hW r0 r0_is)
  have LD := Lib.hid (fun pm gm B W hW => SLoad_c pm gm (S.storeX (List.replicate 4096 0) r0.all 7) c0 c0_good 1 2147483648 8 (by unfold I64; omega) (by unfold B64; omega) (by omega) B none 0 0 [] W hW r1 r1_is)
  rw [x1_is] at LD
  have N1 := Lib.hid (fun W => New_yes 1 (by omega) (by omega) W)
  unfold Made at N1
  rw [show (1 * 4096 : Nat) = 4096 from rfl] at N1
  generalize List.replicate 4096 (0 : Int) = z at *
  generalize S.storeX z r0.all 7 = z1 at *
  unfold vS vT at ST LD
  simp only [Option.map_none] at ST LD
  rw [show vC c0 = .agg #[.int .u64 0, .int .u64 0, .int .u64 0, .int .u64 0, .int .u64 0, .int .u64 0, .int .u64 0, .int .u64 0, .int .u64 0, .int .u64 0, .int .u64 0, .int .u64 0] from rfl] at *
  rw [show vF r0.f = .agg #[.bool false, .int .i64 0, .int .u64 0] from rfl] at ST
  rw [show vF r1.f = .agg #[.bool false, .int .i64 0, .int .u64 0] from rfl] at LD
  go_enter Try.func33, Try.ntmps33
  go_wp2_with fail
  refine (N1.out _).mono ?_
  rintro e w1 ⟨rfl, hA, hG⟩
  have hS0 : Spc w1 w.heap.size (w.heap.size + 1) w.heap.size z none 0 0 [] := ⟨hA, Nat.le_refl _, rfl, rfl⟩
  have hg := gr_alloc (gr_refl w1 none) (.cells #[.pointer (some ⟨w.heap.size + 1, 0, none⟩), .pointer none] 81)
  have hr := Row.fresh w1 81 [.pointer (some ⟨w.heap.size + 1, 0, none⟩), .pointer none]
  have hS := hS0.keep hg
  have hG1 := gr_trans hG hg
  clear hA hG hg hS0
  go_upto_region 5 with (fail)
  replace hr : Row (w1.alloc (.cells #[.pointer (some ⟨w.heap.size + 1, 0, none⟩), .pointer none] 81)) w1.heap.size 81 [.pointer (some ⟨w.heap.size + 1, 0, none⟩), .pointer none] := hr
  generalize w1.alloc (.cells #[.pointer (some ⟨w.heap.size + 1, 0, none⟩), .pointer none] 81) = U at *
  generalize w1.heap.size = s at *
  have s0 := hr.cell 0
  have s1 := hr.cell 1
  simp only [List.getElem?_cons_zero, List.getElem?_cons_succ] at s0 s1
  have sl := hr.lt
  have HR := Lib.hid hr
  have HS := Lib.hid (And.intro hS hG1)
  clear hr hS hG1
  go_wp2_with fail
  refine (ST.out _ _ _ _ HS.out.1).mono ?_
  rintro e w2 ⟨v, rfl, hA, hS, hF⟩
  obtain ⟨g, rfl, hRow, -⟩ : ∃ g, v = .slice (some ⟨g, 0, none⟩) 4 4 ∧ Row w2 g 22 (wrds r0.all) ∧ w.heap.size ≤ w2.heap.size := by
    rcases hA with ⟨h, -⟩ | ⟨g, h1, h2, -⟩
    · cases h
    · exact ⟨g, h1, h2, by have := hF.size; have := HS.out.2.size; omega⟩
  have hr2 := hF.row HR.out (by decide) (by decide) (HR.out.apart HS.out.1.mem.row (by decide))
  have hG2 := hF.grown HS.out.2 (Nat.le_refl _)
  have hg := gr_alloc (gr_refl w2 none) (.cells #[.bool false, .int .i64 0, .int .u64 0] 48)
  have f1 := Row.fresh w2 48 [.bool false, .int .i64 0, .int .u64 0]
  have hr3 := hr2.grown hg (by simp)
  have hS3 := hS.keep hg
  have hG3 := gr_trans hG2 hg
  clear s0 s1 sl HR HS hA hS hF hRow hr2 hG2 hg
  go_upto_region 6 with (fail)
  replace f1 : Row (w2.alloc (.cells #[.bool false, .int .i64 0, .int .u64 0] 48)) w2.heap.size 48 [.bool false, .int .i64 0, .int .u64 0] := f1
  generalize w2.alloc (.cells #[.bool false, .int .i64 0, .int .u64 0] 48) = V at *
  generalize w2.heap.size = f at *
  have s0 := hr3.cell 0
  have s1 := hr3.cell 1
  simp only [List.getElem?_cons_zero, List.getElem?_cons_succ] at s0 s1
  have sl := hr3.lt
  have HS := Lib.hid (And.intro hS3 (And.intro hG3 f1))
  clear hr3 hS3 hG3 f1
  go_wp2_with fail
  refine (LD.out _ _ _ _ HS.out.1).mono ?_
  rintro e w3 ⟨rfl, hS, hF⟩
  have f2 := hF.row HS.out.2.2 (by decide) (by decide) (HS.out.2.2.apart HS.out.1.mem.row (by decide))
  have hG4 := hF.grown HS.out.2.1 (Nat.le_refl _)
  have hg := gr_alloc (gr_refl w3 none) (.cells #[.bool false, .int .i64 0, .int .u64 0] 48)
  have f3 := f2.grown hg (by simp)
  have f4 := Row.fresh w3 48 [.bool false, .int .i64 0, .int .u64 0]
  have hG5 := gr_trans hG4 hg
  clear s0 s1 sl HS hS hF f2 hG4 hg
  go_upto_region 7 with (fail)
  replace f4 : Row (w3.alloc (.cells #[.bool false, .int .i64 0, .int .u64 0] 48)) w3.heap.size 48 [.bool false, .int .i64 0, .int .u64 0] := f4
  generalize w3.alloc (.cells #[.bool false, .int .i64 0, .int .u64 0] 48) = X at *
  generalize w3.heap.size = f' at *
  obtain ⟨⟨m0, -, -⟩, -, ml⟩ := fault_free f3
  obtain ⟨⟨n0, -, -⟩, -, nl⟩ := fault_free f4
  have HG := Lib.hid hG5
  clear f3 f4 hG5
  go_wp2_with fail
  go_ret
  exact ⟨rfl, HG.out⟩
end Go.Proofs.Ytkfmcbhoendocaa
end

section
namespace Go.Proofs.Ytkfmcbhoendocaa
open Go Go.RowKit W M D A C P K
set_option linter.unusedVariables false

theorem nil_state {w : World} {B pm gm : Nat} {bs : List Int} {most : Nat} {n : Int} {L : List T.Lf} (h : Spc w B pm gm bs none most n L) : Spc w B pm gm bs none 0 0 [] := ⟨h.mem, h.own, rfl, rfl⟩
theorem To_n {c : Cs} {priv kind va m : Int} (hc : C.Good c) (hp : I64 priv) (hk : I64 kind) (hv : B64 va) (hm : I64 m) {bs : List Int} {x : Int} {R : Wr}
    (hx : S.sR bs [] (gC c 9) (gC c 0) priv kind va m = x) (hR : S.sF bs [] (gC c 9) (gC c 0) priv kind va m = R) (pm gm B : Nat) (w : World) (h : Spc w B pm gm bs none 0 0 []) :
    Calls Try.prog 36 #[.agg #[.pointer (some ⟨pm, 0, none⟩), .pointer none], vC c, .int .i64 priv, .int .i64 kind, .int .u64 va, .int .i64 m] w fun e w' => e = .returned (.tuple #[.int .u64 x, .agg #[.bool R.isf, .int .i64 R.cause, .int .u64 R.val]]) ∧ Spc w' B pm gm bs none 0 0 [] ∧ Fr B gm w w' := by
  subst hx hR
  refine (STo_c pm gm bs c hc priv kind va m hp hk hv hm B none 0 0 [] w h).mono ?_
  rintro e w' ⟨rfl, hS, hF⟩
  exact ⟨rfl, nil_state hS, hF⟩
theorem Fetch_n {c : Cs} {priv va : Int} (hc : C.Good c) (hp : I64 priv) (hv : B64 va) {bs : List Int} {r : S.Fet}
    (hr : S.fetchV bs 0 (gC c 9) (gC c 0) priv va [] 0 = r) (pm gm B : Nat) (w : World) (h : Spc w B pm gm bs none 0 0 []) :
    Calls Try.prog 43 #[.agg #[.pointer (some ⟨pm, 0, none⟩), .pointer none], vC c, .int .i64 priv, .int .u64 va] w fun e w' => e = .returned (.tuple #[.int .u32 r.x, .agg #[.bool r.f.isf, .int .i64 r.f.cause, .int .u64 r.f.val]]) ∧ Spc w' B pm gm bs none 0 0 [] ∧ Fr B gm w w' := by
  refine (SFetch_c pm gm bs c hc priv va hp hv B none 0 0 [] w h r hr).mono ?_
  rintro e w' ⟨rfl, hS, hF⟩
  exact ⟨rfl, nil_state hS, hF⟩
theorem Load_n {c : Cs} {priv va : Int} {m : Nat} (hc : C.Good c) (hp : I64 priv) (hv : B64 va) (hm : m = 1 ∨ m = 2 ∨ m = 4 ∨ m = 8) {bs : List Int} {r : S.Ans} {x : Int}
    (hr : S.realsV bs 0 (gC c 9) (gC c 0) priv 1 va m [] 0 = r) (hx : S.loadX bs r.all = x) (pm gm B : Nat) (w : World) (h : Spc w B pm gm bs none 0 0 []) :
    Calls Try.prog 38 #[.agg #[.pointer (some ⟨pm, 0, none⟩), .pointer none], vC c, .int .i64 priv, .int .u64 va, .int .i64 m] w fun e w' => e = .returned (.tuple #[.int .u64 x, .agg #[.bool r.f.isf, .int .i64 r.f.cause, .int .u64 r.f.val]]) ∧ Spc w' B pm gm bs none 0 0 [] ∧ Fr B gm w w' := by
  subst hx
  refine (SLoad_c pm gm bs c hc priv va m hp hv hm B none 0 0 [] w h r hr).mono ?_
  rintro e w' ⟨rfl, hS, hF⟩
  exact ⟨rfl, nil_state hS, hF⟩
/-- What stands: a block of what is done, the space, memory. -/
structure Lv (w : World) (T0 : TypeId) (t : Nat) (l : List Value) (s pm gm : Nat) (bs : List Int) (wr : World) : Prop where
  opr : Row wr t T0 l
  spa : Row wr s 81 [.pointer (some ⟨pm, 0, none⟩), .pointer none]
  st : Spc wr w.heap.size pm gm bs none 0 0 []
  gr : w.grownBy wr none
section
variable {w wr ws : World} {T0 : TypeId} {t s pm gm : Nat} {l : List Value} {bs bs' : List Int}
theorem Lv.keep (h : Lv w T0 t l s pm gm bs wr) (hg : wr.grownBy ws none) : Lv w T0 t l s pm gm bs ws :=
  ⟨h.opr.grown hg (by simp), h.spa.grown hg (by simp), h.st.keep hg, gr_trans h.gr hg⟩
theorem Lv.fr (h : Lv w T0 t l s pm gm bs wr) (h1 : T0 ≠ 122) (h2 : T0 ≠ 135) (h3 : T0 ≠ 5) (hS : Spc ws w.heap.size pm gm bs' none 0 0 []) (hF : Fr w.heap.size gm wr ws) : Lv w T0 t l s pm gm bs' ws :=
  ⟨hF.row h.opr h1 h2 (h.opr.apart h.st.mem.row h3), hF.row h.spa (by decide) (by decide) (h.spa.apart h.st.mem.row (by decide)), hS, hF.grown h.gr (Nat.le_refl _)⟩
/-- A row of the law's own stays. -/
theorem Lv.own (h : Lv w T0 t l s pm gm bs wr) (hF : Fr w.heap.size gm wr ws) {g : Nat} {t' : TypeId} {l' : List Value} (hr : Row wr g t' l') (h1 : t' ≠ 122) (h2 : t' ≠ 135) (h3 : t' ≠ 5) : Row ws g t' l' :=
  hF.row hr h1 h2 (hr.apart h.st.mem.row h3)
end
/-- A new row. -/
theorem new2 (w : World) (t : TypeId) (x y : Value) : Row (w.alloc (.cells #[x, y] t)) w.heap.size t [x, y] := Row.fresh w t [x, y]
theorem newF (w : World) (x y z : Value) : Row (w.alloc (.cells #[x, y, z] 48)) w.heap.size 48 [x, y, z] := Row.fresh w 48 [x, y, z]

/-- How many bytes. -/
def sizeN (n : Int) : Nat := if n % 4 = 0 then 1 else if n % 4 = 1 then 2 else if n % 4 = 2 then 4 else 8
theorem sizeN_is (n : Int) : sizeN n = 1 ∨ sizeN n = 2 ∨ sizeN n = 4 ∨ sizeN n = 8 := by unfold sizeN; split; simp; split; simp; split <;> simp
theorem size_c (n : Int) (hn : 0 ≤ n ∧ n ≤ 255) (w : World) : Calls Try.prog 35 #[.int .u8 n] w fun e w' => e = .returned (.int .i64 (sizeN n)) ∧ w = w' := by
  have hand := M.and_3 n hn
  obtain h | h | h | h : n % 4 = 0 ∨ n % 4 = 1 ∨ n % 4 = 2 ∨ n % 4 = 3 := by omega
  · have hs : sizeN n = 1 := by unfold sizeN; simp [h]
    rw [hs]
    rw [h] at hand
    go_enter Try.func35, Try.ntmps35
    go_wp2_with fail
    go_ret
    exact ⟨rfl, rfl⟩
  · have hs : sizeN n = 2 := by unfold sizeN; simp [h]
    rw [hs]
    rw [h] at hand
    go_enter Try.func35, Try.ntmps35
    go_wp2_with fail
    go_ret
    exact ⟨rfl, rfl⟩
  · have hs : sizeN n = 4 := by unfold sizeN; simp [h]
    rw [hs]
    rw [h] at hand
    go_enter Try.func35, Try.ntmps35
    go_wp2_with fail
    go_ret
    exact ⟨rfl, rfl⟩
  · have hs : sizeN n = 8 := by unfold sizeN; simp [h]
    rw [hs]
    rw [h] at hand
    go_enter Try.func35, Try.ntmps35
    go_wp2_with fail
    go_ret
    exact ⟨rfl, rfl⟩
/-! ### Faults are of the address -/
theorem toF_val {bs : List Int} {L : List T.Lf} {sa st priv kind va : Int} (h : (T.toFV bs L sa st priv kind va).isf = true) : ((T.toFV bs L sa st priv kind va).cause = pfC kind ∨ (T.toFV bs L sa st priv kind va).cause = naC kind) ∧ (T.toFV bs L sa st priv kind va).val = va := by
  unfold T.toFV at *
  split at h
  · simp [foundV] at h
  · rename_i hn
    exact walk_of bs sa va kind priv st h
theorem sF_val {bs : List Int} {L : List T.Lf} {sa st priv kind va m : Int} (h : (S.sF bs L sa st priv kind va m).isf = true) : ((S.sF bs L sa st priv kind va m).cause = pfC kind ∨ (S.sF bs L sa st priv kind va m).cause = naC kind) ∧ (S.sF bs L sa st priv kind va m).val = va := by
  unfold S.sF at *
  split at h
  · rename_i h1
    rw [if_pos h1]
    exact toF_val h1
  · rename_i h1
    rw [if_neg h1]
    split at h
    · simp [foundV] at h
    · rename_i h2
      rw [if_neg h2]
      exact ⟨.inr rfl, rfl⟩
/-! ### A fetch without what keeps leaves -/
theorem fetch_nil {bs : List Int} {sa st priv va : Int} {r : S.Fet} {f1 f2 : Wr} {x1 x2 : Int} (hr : S.fetchV bs 0 sa st priv va [] 0 = r) (hf1 : S.sF bs [] sa st priv 0 va 2 = f1) (hx1 : S.sR bs [] sa st priv 0 va 2 = x1)
    (hf2 : S.sF bs [] sa st priv 0 (S.stepA va 2) 2 = f2) (hx2 : S.sR bs [] sa st priv 0 (S.stepA va 2) 2 = x2) :
    (f1.isf = true → r.x = 0 ∧ r.f = f1) ∧ (f1.isf = false → getV bs x1 2 % 4 ≠ 3 → r.x = getV bs x1 2 ∧ r.f = f1) ∧
    (f1.isf = false → getV bs x1 2 % 4 = 3 → f2.isf = true → r.x = 0 ∧ r.f = f2 ∧ f2.val = S.stepA va 2) ∧
    (f1.isf = false → getV bs x1 2 % 4 = 3 → f2.isf = false → r.x = getV bs x2 2 * 65536 + getV bs x1 2 ∧ r.f = f2) := by
  have hh1 : S.halfV bs [] sa st priv va = if f1.isf = true then 0 else getV bs x1 2 := by unfold S.halfV; rw [hf1, hx1]
  have hh2 : S.halfV bs [] sa st priv (S.stepA va 2) = if f2.isf = true then 0 else getV bs x2 2 := by unfold S.halfV; rw [hf2, hx2]
  have hv : f2.isf = true → f2.val = S.stepA va 2 := fun h => by rw [← hf2] at h ⊢; exact (sF_val h).2
  unfold S.fetchV at hr
  rw [nil_L, hf1, hf2, hh1, hh2] at hr
  subst hr
  refine ⟨fun h => ?_, fun h h3 => ?_, fun h h3 h2 => ?_, fun h h3 h2 => ?_⟩
  · simp [h]
  · simp [h, h3]
  · simp [h, h3, h2, hv h2]
  · simp [h, h3, h2]
end Go.Proofs.Ytkfmcbhoendocaa
end
