/-
  The head of layer 11's statements; memory, two times: contracts over the program's translation.
  Conditions: the arguments are numbers of their kinds; the slice's elements stand.
-/
import Derived.Test.YtkfmcbhoendocaaWalkT
import Derived.Test.YtkfmcbhoendocaaWalkY
import Derived.Test.YtkfmcbhoendocaaRamR
namespace Go.Proofs.Ytkfmcbhoendocaa
open Go Go.RowKit W M D A C P K
set_option linter.unusedVariables false

/-- The elements of the slice: n of them, two cells each, below block B. -/
def Elems (w : World) (B : Nat) (A : Option Addr) (n : Nat) (f g : Nat → Int) : Prop :=
  ∀ i, i < n → ∃ ad, A = some ad ∧ ad.block < B ∧ w.cell? (ad.add (i * 2 + 0)) = some (.int .u32 (f i)) ∧ (0 ≤ f i ∧ f i ≤ 4294967295) ∧ w.cell? (ad.add (i * 2 + 1)) = some (.int .u64 (g i)) ∧ B64 (g i)
theorem Elems.turn {w w' : World} {B : Nat} {A : Option Addr} {n : Nat} {f g : Nat → Int} (h : Elems w B A n f g) (hk : ∀ a : Addr, a.block < B → w'.cell? a = w.cell? a) : Elems w' B A n f g := fun i hi => by
  obtain ⟨ad, e, hb, h0, b0, h1, b1⟩ := h i hi
  exact ⟨ad, e, hb, (hk _ (by rw [add_block]; exact hb)).trans h0, b0, (hk _ (by rw [add_block]; exact hb)).trans h1, b1⟩
theorem cell_grown {w w' : World} {row : Option Nat} (hb : w.grownBy w' row) {a : Addr} (ha : a.block < w.heap.size) (hn : some a.block ≠ row) : w'.cell? a = w.cell? a := by
  have := hb.block a.block ha hn
  unfold World.cell?
  rw [this]
/-- Two memories of the same bytes, new. -/
def Both (w : World) (bs : List Int) (e : Ending) (w' : World) : Prop :=
  ∃ p g p' g', e = .returned (.tuple #[.pointer (some ⟨p, 0, none⟩), .pointer (some ⟨p', 0, none⟩)]) ∧ RAt w' p g bs ∧ QAt w' p' g' bs ∧ w.grownBy w' none
/-- Two memories of the same bytes, new, one behind the other. -/
def Both2 (w : World) (bs : List Int) (e : Ending) (w' : World) : Prop :=
  ∃ p g p' g', e = .returned (.tuple #[.pointer (some ⟨p, 0, none⟩), .pointer (some ⟨p', 0, none⟩)]) ∧ RAt w' p g bs ∧ QAt w' p' g' bs ∧ w.grownBy w' none ∧ (w.heap.size ≤ g ∧ g < p ∧ p < g' ∧ g' < p')
/-- What stands while numbers are written. -/
structure Twin (w : World) (B b p g p' g' : Nat) (a : Int) (A : Option Addr) (n k : Nat) (f h : Nat → Int) (bs cs : List Int) (wr : World) : Prop where
  arg : Row wr b 36 [.int .u8 a, .slice A n k]
  one : RAt wr p g bs
  two : QAt wr p' g' cs
  els : Elems wr B A n f h
  gr : w.grownBy wr none
  sz : w.heap.size = B
  ord : B ≤ b ∧ b < g ∧ g < p ∧ p < g' ∧ g' < p'
section
variable {w wr ws : World} {B b p g p' g' : Nat} {a : Int} {A : Option Addr} {n k : Nat} {f h : Nat → Int} {bs cs ds : List Int}
theorem Twin.put1 (t : Twin w B b p g p' g' a A n k f h bs cs wr) (hm : RAt ws p g ds) (hg : wr.grownBy ws (some g)) : Twin w B b p g p' g' a A n k f h ds cs ws := by
  have o := t.ord
  have s := t.sz
  have z := t.gr.size
  exact ⟨t.arg.grown hg (some_ne (by omega)), hm, t.two.grown hg (some_ne (by omega)) (some_ne (by omega)), t.els.turn fun ad had => cell_grown hg (by omega) (some_ne (by omega)), gr_row (gr_trans (gr_none t.gr _) hg) (by omega), s, o⟩
theorem Twin.put2 (t : Twin w B b p g p' g' a A n k f h bs cs wr) (hm : QAt ws p' g' ds) (hg : wr.grownBy ws (some g')) : Twin w B b p g p' g' a A n k f h bs ds ws := by
  have o := t.ord
  have s := t.sz
  have z := t.gr.size
  exact ⟨t.arg.grown hg (some_ne (by omega)), t.one.grown hg (some_ne (by omega)) (some_ne (by omega)), hm, t.els.turn fun ad had => cell_grown hg (by omega) (some_ne (by omega)), gr_row (gr_trans (gr_none t.gr _) hg) (by omega), s, o⟩
end
theorem fld1 (a : Addr) (i j : Nat) : (⟨(a.add i).block, (a.add i).off + (j + 1), none⟩ : Addr) = a.add (i + (j + 1)) := by
  have : (a.add i).add (j + 1) = a.add (i + (j + 1)) := by
    unfold Addr.add
    by_cases hi : i = 0 <;> simp [hi, Nat.add_assoc]
  rw [← this]; rfl

set_option maxRecDepth 100000 in
set_option maxHeartbeats 4000000 in
theorem both2_c (a : Int) (ha : 0 ≤ a ∧ a ≤ 255) (A : Option Addr) (n k : Nat) (hnk : n ≤ k) (hk : k ≤ 9223372036854775807) (f h : Nat → Int) (w : World) (hE : Elems w w.heap.size A n f h) :
    Calls Try.prog 13 #[.agg #[.int .u8 a, .slice A n k]] w (Both2 w (fillV f h (min n 64) (List.replicate ((1 + a % 16).toNat * 4096) 0))) := by
  obtain ⟨q, hq1, hq4, hqe⟩ : ∃ q : Nat, 1 ≤ q ∧ q ≤ 16 ∧ (1 : Int) + a % 16 = q := ⟨(1 + a % 16).toNat, by omega, by omega, by omega⟩
  have hand := and_15 a ha
  rw [hqe, Int.toNat_natCast]
  obtain ⟨N, hN⟩ : ∃ N, N = min n 64 := ⟨_, rfl⟩
  rw [← hN]
  have hNa : N ≤ n := by omega
  have hNb : N ≤ 64 := by omega
  have HNc := Lib.hid (show N = n ∨ N = 64 by omega)
  clear hN
  obtain ⟨z, hz⟩ : ∃ z, z = List.replicate (q * 4096) (0 : Int) := ⟨_, rfl⟩
  rw [← hz]
  have HZ := Lib.hid hz
  have HR0 := Lib.hid (Row.fresh w 36 [.int .u8 a, .slice A n k])
  have HE0 := Lib.hid hE
  clear hE hz
  go_enter Try.func13, Try.ntmps13
  go_wp2_with fail
  refine (New_yes q (by omega) (by omega) _).mono ?_
  rintro e wa ⟨rfl, hA, hGa⟩
  rw [← HZ.out] at hA
  have hRa := HR0.out.grown hGa (by simp)
  have hga := gr_trans (gr_alloc (gr_refl w none) (.cells #[.int .u8 a, .slice A n k] 36)) hGa
  rw [show (w.alloc (.cells #[.int .u8 a, .slice A n k] 36)).heap.size = w.heap.size + 1 from Array.size_push ..] at hA
  have hza := hA.ptr.lt
  go_wp2_with fail
  refine (rNew_yes q (by omega) (by omega) _).mono ?_
  rintro e wb ⟨rfl, hB, hGb⟩
  rw [← HZ.out] at hB
  have hT : Twin w w.heap.size w.heap.size (w.heap.size + 1 + 1) (w.heap.size + 1) (wa.heap.size + 1) wa.heap.size a A n k f h z z wb :=
    ⟨hRa.grown hGb (by simp), hA.kept hGb, hB, HE0.out.turn fun ad had => cell_grown (gr_trans hga hGb) had (by simp), gr_trans hga hGb, rfl, by omega⟩
  generalize w.heap.size = b at *
  generalize wa.heap.size = g' at *
  clear HR0 HE0 hA hB hRa hga hza hGa hGb
  go_wp2_with fail
  go_loopw [9] (fun i wr => ∃ j : Nat, j ≤ N ∧ i = .int .i64 j ∧ Twin w b b (b + 1 + 1) (b + 1) (g' + 1) g' a A n k f h (fillV f h j z) (fillV f h j z) wr) (fun i _ => N - (intOf i).toNat)
  case atStart => exact ⟨0, Nat.zero_le _, rfl, hT⟩
  case round =>
    clear hT
    obtain ⟨j, hj, rfl, hT⟩ := hrel
    have hc1 : wr.cell? ⟨b, 1, none⟩ = some (.slice A n k) := hT.arg.cell 1
    have hlt := hT.arg.lt
    by_cases hjN : j < N
    · obtain ⟨ad, rfl, hadb, u0, v0, u1, v1⟩ := hT.els j (by omega)
      have hjn : j < n := by omega
      have hj64 : j < 64 := by omega
      have V1 := Lib.hid v1
      have hx := and_8 (f j) v0
      have hspot : 2147483648 + f j % 65536 / 8 * 8 = spotV (f j) := rfl
      have hsb : 2147483648 ≤ spotV (f j) ∧ spotV (f j) ≤ 2147549183 := by unfold spotV; omega
      rw [Nat.add_zero] at u0
      rw [← fld1] at u1
      have HST := Lib.hid (show fillV f h (j + 1) z = putV (fillV f h j z) (spotV (f j)) 8 (h j) from rfl)
      have hadl : ad.block < wr.heap.size := by have := hT.arg.lt; have := hT.ord; have := hT.gr.size; have := hT.sz; omega
      generalize fillV f h j z = cs at *
      unfold B64 at v1
      go_wp2_with fail
      refine (Put_c _ _ cs _ 8 _ _ hT.one (by omega) (by omega) V1.out).mono ?_
      rintro e w1 ⟨rfl, hA, hG⟩
      have hT1 := hT.put1 hA hG
      clear hT hA hG hc1 u0 u1 hlt hadl
      obtain ⟨ad2, e2, hadb2, u0, _, u1, _⟩ := hT1.els j (by omega)
      injection e2 with e2
      subst e2
      rw [Nat.add_zero] at u0
      rw [← fld1] at u1
      have hc1 : w1.cell? ⟨b, 1, none⟩ = some (.slice (some ad) n k) := hT1.arg.cell 1
      have hlt := hT1.arg.lt
      have hadl : ad.block < w1.heap.size := by have := hT1.arg.lt; have := hT1.ord; have := hT1.gr.size; have := hT1.sz; omega
      go_wp2_with fail
      refine (rPut_c _ _ cs _ 8 _ _ hT1.two (by omega) (by omega) V1.out).mono ?_
      rintro e w2 ⟨rfl, hA, hG⟩
      have hT2 := hT1.put2 hA hG
      clear hT1 hA hG hc1 u0 u1 hlt hadl
      go_wp2_with fail
      go_roundw
      case rel => exact ⟨j + 1, by omega, by go_num, by rw [HST.out]; exact hT2⟩
      case measure => simp [intOf]; omega
    · obtain rfl : j = N := by omega
      have fin : Both2 w (fillV f h j z) (.returned (.tuple #[.pointer (some ⟨b + 1 + 1, 0, none⟩), .pointer (some ⟨g' + 1, 0, none⟩)])) wr := ⟨_, _, _, _, rfl, hT.one, hT.two, hT.gr, by have := hT.ord; have := hT.sz; omega⟩
      have FIN := Lib.hid fin
      clear fin hT
      by_cases hjn : j < n
      · obtain rfl : j = 64 := by have := HNc.out; omega
        clear hj hjN hNa hNb
        go_wp2_with fail
        go_ret2
        exact FIN.out
      · clear hj hjN hNa hNb
        go_wp2_with fail
        go_ret2
        exact FIN.out
theorem both_c (a : Int) (ha : 0 ≤ a ∧ a ≤ 255) (A : Option Addr) (n k : Nat) (hnk : n ≤ k) (hk : k ≤ 9223372036854775807) (f h : Nat → Int) (w : World) (hE : Elems w w.heap.size A n f h) :
    Calls Try.prog 13 #[.agg #[.int .u8 a, .slice A n k]] w (Both w (fillV f h (min n 64) (List.replicate ((1 + a % 16).toNat * 4096) 0))) :=
  (both2_c a ha A n k hnk hk f h w hE).mono fun _ _ ⟨p, g, p', g', he, h1, h2, h3, _⟩ => ⟨p, g, p', g', he, h1, h2, h3⟩
end Go.Proofs.Ytkfmcbhoendocaa
