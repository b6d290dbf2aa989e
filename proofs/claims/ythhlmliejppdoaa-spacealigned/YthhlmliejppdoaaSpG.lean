/-
  The addresses of an access's bytes (space.reals): a contract over the program's translation.
  Conditions: the arguments are numbers of their kinds; the space stands; of 1, 2, 4 or 8 bytes.
-/
import Derived.Test.YthhlmliejppdoaaSpE
namespace Go.Proofs.Ythhlmliejppdoaa
open Go Go.RowKit W M D A C P K
set_option linter.unusedVariables false

theorem sWidth_c (n : Int) (hn : I64 n) (w : World) :
    Calls Try.prog 104 #[.int .i64 n] w fun e w' => e = .returned (.bool (widB n)) ∧ w = w' := by
  unfold I64 at hn
  by_cases h : n = 1 ∨ n = 2 ∨ n = 4 ∨ n = 8
  · rcases h with rfl | rfl | rfl | rfl
    all_goals
      go_enter Try.func104, Try.ntmps104
      go_wp2_with fail
      go_ret
      exact ⟨rfl, rfl⟩
  · have e : widB n = false := by unfold widB; simpa using h
    rw [e]
    have d1 : (n == 1) = false := by simp; omega
    have d2 : (n == 2) = false := by simp; omega
    have d4 : (n == 4) = false := by simp; omega
    have d8 : (n == 8) = false := by simp; omega
    clear h e
    go_enter Try.func104, Try.ntmps104
    go_wp2_with fail
    go_ret
    exact ⟨rfl, rfl⟩
theorem Bx.start (w : World) (pm : Nat) (t : Option Nat) (c : Cs) (priv kind : Int) :
    Bx ((((w.alloc (.cells #[.pointer (some ⟨pm, 0, none⟩), vT t] 73)).alloc (.cells (lC c).toArray 39)).alloc (.cells #[.int .i64 priv] 3)).alloc (.cells #[.int .i64 kind] 3)) w.heap.size pm t c priv kind ∧
    ((((w.alloc (.cells #[.pointer (some ⟨pm, 0, none⟩), vT t] 73)).alloc (.cells (lC c).toArray 39)).alloc (.cells #[.int .i64 priv] 3)).alloc (.cells #[.int .i64 kind] 3)).heap.size = w.heap.size + 4 := by
  have a0 := Row.fresh w 73 [.pointer (some ⟨pm, 0, none⟩), vT t]
  obtain ⟨w1, h1⟩ : ∃ w1, w1 = w.alloc (.cells #[.pointer (some ⟨pm, 0, none⟩), vT t] 73) := ⟨_, rfl⟩
  have s1 : w1.heap.size = w.heap.size + 1 := by rw [h1]; exact Array.size_push ..
  have a1 := Row.fresh w1 39 (lC c)
  obtain ⟨w2, h2⟩ : ∃ w2, w2 = w1.alloc (.cells (lC c).toArray 39) := ⟨_, rfl⟩
  have s2 : w2.heap.size = w.heap.size + 2 := by rw [h2]; exact (Array.size_push ..).trans (by rw [s1])
  have a2 := Row.fresh w2 3 [.int .i64 priv]
  obtain ⟨w3, h3⟩ : ∃ w3, w3 = w2.alloc (.cells #[.int .i64 priv] 3) := ⟨_, rfl⟩
  have s3 : w3.heap.size = w.heap.size + 3 := by rw [h3]; exact (Array.size_push ..).trans (by rw [s2])
  have a3 := Row.fresh w3 3 [.int .i64 kind]
  rw [s1] at a1
  rw [s2] at a2
  rw [s3] at a3
  subst h1
  subst h2
  subst h3
  exact ⟨⟨((a0.alloc _).alloc _).alloc _, (a1.alloc _).alloc _, a2.alloc _, a3⟩, (Array.size_push ..).trans (by rw [s3])⟩
set_option maxRecDepth 100000 in
set_option maxHeartbeats 4000000 in
theorem reals_c (pm gm : Nat) (bs : List Int) (c : Cs) (hc : C.Good c) (priv kind va : Int) (m : Nat) (hp : I64 priv) (hk : I64 kind) (hv : B64 va) (hm : m = 1 ∨ m = 2 ∨ m = 4 ∨ m = 8) (B : Nat) (t : Option Nat) (most : Nat) (n : Int) (L : List T.Lf) (w : World) (h : Spc w B pm gm bs t most n L) :
    Calls Try.prog 78 #[vS pm t, vC c, .int .i64 priv, .int .i64 kind, .int .u64 va, .int .i64 m] w (Gave w B pm gm bs t most (S.realsV bs most (gC c 9) (gC c 0) priv kind va m L n)) := by
  have hm8 : 1 ≤ m ∧ m ≤ 8 := by omega
  have TG := Lib.hid (fun b W hB hW => together_c pm gm bs c hc priv kind va m hp hk hv hm8 B t most n L b W hB hW)
  have ON := Lib.hid (fun b W hB hW => oneByOne_c pm gm bs c hc priv kind va m hp hk hv hm8 B t most n L b W hB hW)
  have WD := Lib.hid (fun W => sWidth_c (m : Int) (by unfold I64; omega) W)
  have hwd : widB (m : Int) = true := by unfold widB; simp; omega
  rw [hwd] at WD
  have hle := h.le
  obtain ⟨hb, hs4⟩ := Bx.start w pm t c priv kind
  have hg := gr_alloc (gr_alloc (gr_alloc (gr_alloc (gr_refl w none) (.cells #[.pointer (some ⟨pm, 0, none⟩), vT t] 73)) (.cells (lC c).toArray 39)) (.cells #[.int .i64 priv] 3)) (.cells #[.int .i64 kind] 3)
  obtain ⟨W4, hW4⟩ : ∃ W4, W4 = ((((w.alloc (.cells #[.pointer (some ⟨pm, 0, none⟩), vT t] 73)).alloc (.cells (lC c).toArray 39)).alloc (.cells #[.int .i64 priv] 3)).alloc (.cells #[.int .i64 kind] 3)) := ⟨_, rfl⟩
  rw [← hW4] at hb hs4 hg
  have hz := Row.fresh W4 49 [.bool false, .int .i64 0, .int .u64 0]
  have hg5 := gr_alloc (gr_refl W4 none) (.cells #[.bool false, .int .i64 0, .int .u64 0] 49)
  have HB := Lib.hid (hb.keep hg5)
  have HS := Lib.hid (h.keep (gr_trans hg hg5))
  have HF := Lib.hid (Fr.of_none (gr_trans hg hg5) B gm)
  rw [hs4] at hz
  have HZ := Lib.hid hz
  have hs5 : (W4.alloc (.cells #[.bool false, .int .i64 0, .int .u64 0] 49)).heap.size = w.heap.size + 5 := (Array.size_push ..).trans (by rw [hs4])
  have HS5 := Lib.hid hs5
  unfold S.realsV
  generalize S.togV bs most (gC c 9) (gC c 0) priv kind va m L n = r1 at *
  generalize S.runV bs most (gC c 9) (gC c 0) priv kind va m 0 L n = r2 at *
  obtain ⟨r, hr⟩ : ∃ r, r = (if va % (m : Int) = 0 then r1 else r2) := ⟨_, rfl⟩
  rw [← hr]
  have HRR := Lib.hid hr
  clear hr
  clear hb hs4 hg hz hg5 hs5 h
  rw [vS_eq]
  rw [vT_eq] at hW4
  obtain ⟨a0, a1, a2, a3, a4, a5, a6, a7, a8, a9, a10, a11, rfl⟩ := twelve hc.1
  rw [show vC [a0, a1, a2, a3, a4, a5, a6, a7, a8, a9, a10, a11] = .agg #[.int .u64 a0, .int .u64 a1, .int .u64 a2, .int .u64 a3, .int .u64 a4, .int .u64 a5, .int .u64 a6, .int .u64 a7, .int .u64 a8, .int .u64 a9, .int .u64 a10, .int .u64 a11] from rfl] at *
  rw [show lC [a0, a1, a2, a3, a4, a5, a6, a7, a8, a9, a10, a11] = [.int .u64 a0, .int .u64 a1, .int .u64 a2, .int .u64 a3, .int .u64 a4, .int .u64 a5, .int .u64 a6, .int .u64 a7, .int .u64 a8, .int .u64 a9, .int .u64 a10, .int .u64 a11] from rfl] at hW4
  clear hc
  unfold I64 at hp hk
  unfold B64 at hv
  obtain ⟨q, hq⟩ : ∃ q, q = w.heap.size := ⟨_, rfl⟩
  have HQ := Lib.hid hq
  rw [← hq] at HB HZ HS5 hle
  go_enter Try.func78, Try.ntmps78
  go_upto_region 1 with (fail)
  rw [← hq]
  have hV : W4.alloc (.cells #[.bool false, .int .i64 0, .int .u64 0] 49) = (((((w.alloc (.cells #[.pointer (some ⟨pm, 0, none⟩), .pointer (vP t)] 73)).alloc (.cells #[.int .u64 a0, .int .u64 a1, .int .u64 a2, .int .u64 a3, .int .u64 a4, .int .u64 a5, .int .u64 a6, .int .u64 a7, .int .u64 a8, .int .u64 a9, .int .u64 a10, .int .u64 a11] 39)).alloc (.cells #[.int .i64 priv] 3)).alloc (.cells #[.int .i64 kind] 3)).alloc (.cells #[.bool false, .int .i64 0, .int .u64 0] 49)) := by rw [hW4]
  rw [← hV]
  clear hV hW4
  generalize W4.alloc (.cells #[.bool false, .int .i64 0, .int .u64 0] 49) = V at *
  clear hq
  go_wp2_with fail
  refine (WD.out _).mono ?_
  rintro e w1 ⟨rfl, rfl⟩
  by_cases hal : va % m = 0
  · have hrr := HRR.out
    rw [if_pos hal] at hrr
    subst hrr
    go_wp2_with fail
    refine (TG.out _ _ HB.out HS.out).mono ?_
    rintro e w1 ⟨v, rfl, hA, hS, hFr⟩
    have hz1 := hFr.row HZ.out (by decide) (by decide) (HZ.out.apart HS.out.mem.row (by decide))
    obtain ⟨⟨z0, z1, z2⟩, fy, lt⟩ := fault_free hz1
    have HR := Lib.hid (fault_own hS (HF.out.trans hFr) hz1 (by rw [← HQ.out]; omega) (by rw [← HQ.out]; exact hle) (.bool r.f.isf) (.int .i64 r.f.cause) (.int .u64 r.f.val))
    have HA := Lib.hid (hA.own hz1 (gr_set3 w1 (q + 4) (.bool r.f.isf) (.int .i64 r.f.cause) (.int .u64 r.f.val)))
    unfold vF vFault
    clear hz1 hS hFr hA TG ON WD HRR
    go_wp2_with fail
    refine ret_IF (b := r.f.isf) (c := r.f.cause) (v := r.f.val) rfl rfl rfl rfl HR.out.1 ⟨v, rfl, ?_, HR.out.2⟩
    rcases HA.out with h1 | ⟨g, h1, h2, h3⟩
    · exact .inl h1
    · exact .inr ⟨g, h1, h2, by have := h3.1; have := HS5.out; have := HQ.out; omega, h3.2⟩
  · have hrr := HRR.out
    rw [if_neg hal] at hrr
    subst hrr
    have hne : (va % m == 0) = false := by simpa using hal
    go_wp2_with fail
    refine (ON.out _ _ HB.out HS.out).mono ?_
    rintro e w1 ⟨v, rfl, hA, hS, hFr⟩
    have hz1 := hFr.row HZ.out (by decide) (by decide) (HZ.out.apart HS.out.mem.row (by decide))
    obtain ⟨⟨z0, z1, z2⟩, fy, lt⟩ := fault_free hz1
    have HR := Lib.hid (fault_own hS (HF.out.trans hFr) hz1 (by rw [← HQ.out]; omega) (by rw [← HQ.out]; exact hle) (.bool r.f.isf) (.int .i64 r.f.cause) (.int .u64 r.f.val))
    have HA := Lib.hid (hA.own hz1 (gr_set3 w1 (q + 4) (.bool r.f.isf) (.int .i64 r.f.cause) (.int .u64 r.f.val)))
    unfold vF vFault
    clear hz1 hS hFr hA TG ON WD HRR
    go_wp2_with fail
    refine ret_IF (b := r.f.isf) (c := r.f.cause) (v := r.f.val) rfl rfl rfl rfl HR.out.1 ⟨v, rfl, ?_, HR.out.2⟩
    rcases HA.out with h1 | ⟨g, h1, h2, h3⟩
    · exact .inl h1
    · exact .inr ⟨g, h1, h2, by have := h3.1; have := HS5.out; have := HQ.out; omega, h3.2⟩
end Go.Proofs.Ythhlmliejppdoaa
