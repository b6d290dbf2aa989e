/-
  What package enc's Text is: a contract over the program's translation.
  Conditions: the arguments are numbers of their kinds; the tables hold what the program's text lays.
-/
import Derived.Test.YtpbeamnogfjagaaGreatDoorEncS
namespace Go.Proofs.YtpbeamnogfjagaaGreatDoor.E
open Go Go.RowKit Go.Sort F W M D
set_option linter.unusedVariables false
set_option maxRecDepth 100000

theorem infoS : (Tryz.prog.info? 9).map (fun i => (i.zero, i.size, i.bytes)) = some (some (.string ByteArray.empty), 1, 16) := by kernel_rfl
/-- An instruction as text. -/
def textV (o rd rs1 rs2 im : Int) : Bytes := Lib.join (nameV o :: opsV o rd rs1 rs2 im) [32]
theorem reg_len {r : Int} (hr : I64 r) : (regT r).length ≤ 22 := by
  have := Lib.itoa_length_le r hr.1 hr.2
  simp [regT]; omega
theorem name_len (o : Int) : (nameV o).length ≤ 22 := by
  by_cases h : 0 ≤ o ∧ o ≤ 97
  · have := rng_at (a := 0) (b := 97) (P := fun o => decide ((nameV o).length ≤ 22)) (by decide +kernel) o (by omega)
    exact of_decide_eq_true this
  · rw [nameV, if_pos (by omega)]; simp
theorem ops_len (o rd rs1 rs2 im : Int) (h1 : I64 rd) (h2 : I64 rs1) (h3 : I64 rs2) (hi : I64 im) : (opsV o rd rs1 rs2 im).length ≤ 3 ∧ ∀ s ∈ opsV o rd rs1 rs2 im, s.length ≤ 22 := by
  have l1 := reg_len h1
  have l2 := reg_len h2
  have l3 := reg_len h3
  have l4 := Lib.itoa_length_le im hi.1 hi.2
  rcases (show (o ≤ 0) ∨ (o = 1) ∨ (o = 2) ∨ (o = 3) ∨ (4 ≤ o ∧ o ≤ 4) ∨ (5 ≤ o ∧ o ≤ 10) ∨ (11 ≤ o ∧ o ≤ 17) ∨ (18 ≤ o ∧ o ≤ 21) ∨ (22 ≤ o ∧ o ≤ 30) ∨ (31 ≤ o ∧ o ≤ 40) ∨ (41 ≤ o ∧ o ≤ 44) ∨ (45 ≤ o ∧ o ≤ 49) ∨ (50 ≤ o ∧ o ≤ 57) ∨ (58 ≤ o ∧ o ≤ 62) ∨ (63 ≤ o ∧ o ≤ 69) ∨ (70 ≤ o ∧ o ≤ 75) ∨ (76 ≤ o ∧ o ≤ 86) ∨ (87 ≤ o ∧ o ≤ 97) ∨ (97 < o) by omega) with k | k | k | k | k | k | k | k | k | k | k | k | k | k | k | k | k | k | k
  · rw [ops0 k]; exact ⟨by simp, fun s hs => by simp at hs⟩
  · rw [ops1 k]; exact ⟨by simp, fun s hs => by simp at hs; rcases hs with rfl | rfl <;> omega⟩
  · rw [ops2 k]; exact ⟨by simp, fun s hs => by simp at hs; rcases hs with rfl | rfl <;> omega⟩
  · rw [ops3 k]; exact ⟨by simp, fun s hs => by simp at hs; rcases hs with rfl | rfl <;> omega⟩
  · rw [ops4 k]; exact ⟨by simp, fun s hs => by simp at hs; rcases hs with rfl | rfl | rfl <;> omega⟩
  · rw [ops5 k]; exact ⟨by simp, fun s hs => by simp at hs; rcases hs with rfl | rfl | rfl <;> omega⟩
  · rw [ops6 k]; exact ⟨by simp, fun s hs => by simp at hs; rcases hs with rfl | rfl | rfl <;> omega⟩
  · rw [ops7 k]; exact ⟨by simp, fun s hs => by simp at hs; rcases hs with rfl | rfl | rfl <;> omega⟩
  · rw [ops8 k]; exact ⟨by simp, fun s hs => by simp at hs; rcases hs with rfl | rfl | rfl <;> omega⟩
  · rw [ops9 k]; exact ⟨by simp, fun s hs => by simp at hs; rcases hs with rfl | rfl | rfl <;> omega⟩
  · rw [ops10 k]; exact ⟨by simp, fun s hs => by simp at hs; rcases hs with rfl | rfl | rfl <;> omega⟩
  · rw [ops11 k]; exact ⟨by simp, fun s hs => by simp at hs; rcases hs with rfl | rfl | rfl <;> omega⟩
  · rw [ops12 k]; exact ⟨by simp, fun s hs => by simp at hs; rcases hs with rfl | rfl | rfl <;> omega⟩
  · rw [ops13 k]; exact ⟨by simp, fun s hs => by simp at hs; rcases hs with rfl | rfl | rfl <;> omega⟩
  · rw [ops14 k]; exact ⟨by simp, fun s hs => by simp at hs⟩
  · rw [ops15 k]; exact ⟨by simp, fun s hs => by simp at hs; rcases hs with rfl | rfl | rfl <;> omega⟩
  · rw [ops16 k]; exact ⟨by simp, fun s hs => by simp at hs; rcases hs with rfl | rfl | rfl <;> omega⟩
  · rw [ops17 k]; exact ⟨by simp, fun s hs => by simp at hs; rcases hs with rfl | rfl | rfl <;> omega⟩
  · rw [ops18 k]; exact ⟨by simp, fun s hs => by simp at hs⟩
theorem join_len (l : List Bytes) (k : Nat) (h : ∀ s ∈ l, s.length ≤ k) : (Lib.join l [32]).length ≤ l.length * (k + 1) := by
  cases l with
  | nil => simp [Lib.join]
  | cons a r =>
    rw [Lib.join_cons]
    have ha := h a (by simp)
    have key : ∀ r : List Bytes, (∀ s ∈ r, s.length ≤ k) → (Lib.joinTail [32] r).length ≤ r.length * (k + 1) := by
      intro r
      induction r with
      | nil => intro _; simp [Lib.joinTail]
      | cons b r ih =>
        intro hr
        have hb := hr b (by simp)
        have := ih fun s hs => hr s (by simp [hs])
        simp only [Lib.joinTail, List.map_cons, List.flatten_cons, List.length_append, List.length_cons, List.length_nil] at this ⊢
        rw [Nat.add_mul]
        omega
    have := key r fun s hs => h s (by simp [hs])
    rw [List.length_append, List.length_cons, Nat.add_mul]
    omega
theorem cells_strs {w : World} {b : Nat} {l : List Bytes} (h : Row w b 9 (l.map fun s => .string (txt s))) : ∀ j u, (l.map fun s => Value.string (txt s))[j]? = some u → w.cell? ((⟨b, 0, none⟩ : Addr).add j) = some u := by
  intro j u hu
  have e : (⟨b, 0, none⟩ : Addr).add j = ⟨b, j, none⟩ := by
    unfold Addr.add
    split
    · next h => rw [h]
    · simp
  rw [e, h.cell j, hu]
theorem own_cells {w : World} {base : Nat} {v : Value} {n : Nat} {l : List Bytes} (hn : 0 < n) (h : w.ownsRow base 9 1 v n (l.map fun s => .string (txt s))) :
    ∃ g cap, v = .slice (some ⟨g, 0, none⟩) n cap ∧ l.length = n ∧ n ≤ cap ∧ g < w.heap.size ∧ ∀ (j : Nat) x, (l.map txt)[j]? = some x → w.cell? ⟨g, 0 + j, none⟩ = some (.string x) := by
  obtain ⟨hl, hc | ⟨g, cap, cur, rfl, hb, hh, hnc, hm, hcs, ht⟩⟩ := h
  · omega
  · refine ⟨g, cap, rfl, by simpa using hl, hnc, ?_, ?_⟩
    · apply Classical.byContradiction
      intro hc
      rw [Array.getElem?_eq_none (by omega)] at hh
      cases hh
    · intro j x hx
      have hj : j < n := by
        have := List.getElem?_eq_some_iff.1 hx
        obtain ⟨hj, _⟩ := this
        simp at hj hl
        omega
      have h1 : (l.map fun s => Value.string (txt s))[j]? = some (.string x) := by
        rw [List.getElem?_map] at hx ⊢
        cases hq : l[j]? with
        | none => rw [hq] at hx; simp at hx
        | some s => rw [hq] at hx; simp at hx ⊢; rw [hx]
      rw [← ht, List.getElem?_take, if_pos (by omega)] at h1
      simp only [World.cell?, hh, Nat.zero_add]
      simpa using h1
theorem map_txt (l : List Bytes) : (l.map txt).map (·.data.toList) = l := by
  induction l with
  | nil => rfl
  | cons a l ih => rw [List.map_cons, List.map_cons, ih, txt_list]
set_option maxHeartbeats 4000000 in
theorem Text_c (o rd rs1 rs2 im n : Int) (ho : I64 o) (h1 : I64 rd) (h2 : I64 rs1) (h3 : I64 rs2) (hi : I64 im) (w : World) (hT : Tabs w) :
    Calls Tryz.prog 13 #[six o rd rs1 rs2 im n] w fun e w' => e = .returned (.string (txt (textV o rd rs1 rs2 im))) ∧ Below w.heap.size w w' := by
  obtain ⟨i0, hi0, hz0, hz1, hz2⟩ := info_parts infoS
  have hS0 := heldT_new w hT o rd rs1 rs2 im n
  have c0 := hS0.1
  have HS := Lib.hid hS0
  clear hS0
  have HO := Lib.hid (fun W h => operands_c o rd rs1 rs2 im n ho h1 h2 h3 hi W h)
  have HL := Lib.hid (ops_len o rd rs1 rs2 im h1 h2 h3 hi)
  have HN := Lib.hid (name_len o)
  have HC := Lib.hid (fun W h => Name_c o ho W h)
  unfold textV
  generalize opsV o rd rs1 rs2 im = l at *
  generalize nameV o = s at *
  obtain ⟨sb, e1⟩ : ∃ t, t = txt s := ⟨_, rfl⟩
  rw [← e1] at HC
  have E1 := Lib.hid e1
  clear e1
  go_enter Tryz.func13, Tryz.ntmps13
  go_wp2_with fail
  refine (HC.out _ (HeldT.tabs HS.out).2.1).mono ?_
  rintro e w' ⟨rfl, rfl⟩
  have hG1 := gr_alloc (HeldT.gr HS.out) (.cells #[.string sb] 9)
  have HS1 := Lib.hid (HeldT.on (gr_alloc (gr_refl _ none) (.cells #[.string sb] 9)) HS.out)
  clear c0
  obtain ⟨c0, c1, c2, c3, c4, c5, _, _, _⟩ := HS1.out
  go_wp2_with fail
  refine (HO.out _ (HeldT.tabs HS1.out)).mono ?_
  rintro e w2 ⟨v, rfl, hV, hG2⟩
  have hR1 : Row (((w.alloc (.cells #[.int .i64 o, .int .i64 rd, .int .i64 rs1, .int .i64 rs2, .int .i64 im, .int .i64 n] 23)).alloc (.cells #[.string sb] 9))) (w.heap.size + 1) 9 [.string sb] := by
    have e : w.heap.size + 1 = (w.alloc (.cells #[.int .i64 o, .int .i64 rd, .int .i64 rs1, .int .i64 rs2, .int .i64 im, .int .i64 n] 23)).heap.size := by
      show _ = (w.heap.push _).size
      rw [Array.size_push]
    rw [e]
    exact Row.fresh _ 9 [.string sb]
  have hR2 := hR1.grown hG2 (by simp)
  have hown : w2.ownsRow w.heap.size 9 1 (.slice (some ⟨w.heap.size + 1, 0, none⟩) 1 1) 1 [.string sb] :=
    ⟨rfl, Or.inr ⟨_, 1, #[.string sb], rfl, by omega, hR2, by omega, by unfold maxLen; omega, rfl, rfl⟩⟩
  have hB2 : Below w.heap.size w w2 := gr_below (gr_trans hG1 hG2)
  clear c0 c1 c2 c3 c4 c5 hR1 hG1 hG2 HS HS1 HO HC hT
  rcases hV with ⟨rfl, rfl⟩ | ⟨b, rfl, hRb⟩
  · have hJ := Tryz.strings_Join (w.heap.size + 1) 0 1 [sb] ⟨#[32]⟩ w2 (by
      intro j x hx
      have := hR2.cell j
      rw [Nat.zero_add, this]
      cases j with
      | zero => simp at hx ⊢; exact hx
      | succ j => simp at hx) hR2.lt (by simp) (by simp) (by
        simp only [List.map_cons, List.map_nil, Lib.join_one]
        rw [E1.out, txt_list]
        have := HN.out
        omega)
    have e : (Lib.join ([sb].map (·.data.toList)) (⟨#[32]⟩ : ByteArray).data.toList) = Lib.join [s] [32] := by rw [E1.out]; simp [txt]
    rw [e] at hJ
    have HJ := Lib.hid hJ
    have HB := Lib.hid hB2
    have HW := Lib.hid hown
    clear hJ hB2 e HN HL hR2 hown hz0 hz1 hz2 E1
    go_wp2_with (at_builtin; refine wpList_append_own_none rfl (.tmp 8) (.tmp 10) 45 rfl w.heap.size 9 i0 1 Tryz.underlying45 hi0 _ 1 [.string sb] rfl HW.out rfl ?_)
    refine HJ.out.mono ?_
    rintro e w3 ⟨rfl, hB3⟩
    go_wp2_with fail
    go_ret
    exact ⟨rfl, HB.out.trans (hB3.mono HB.out.size)⟩
  · have hll := HL.out.1
    have hmm : ∀ s ∈ l, List.length s ≤ 22 := HL.out.2
    have HC := Lib.hid (cells_strs hRb)
    have hlen : l.length + 1 ≤ maxLen := by unfold maxLen; omega
    clear HL
    go_wp2_with (at_builtin; refine wpList_append_own _ rfl (.tmp 8) (.tmp 10) 45 rfl w.heap.size 9 i0 (.string ByteArray.empty) 1 16 Tryz.underlying45 hi0 hz0 hz1 hz2 rfl (by decide) _ 1 [.string sb] rfl hown ⟨b, 0, none⟩ l.length l.length (l.map fun s => .string (txt s)) rfl (by simp) HC.out (fun u hu => by simp at hu; obtain ⟨s, _, rfl⟩ := hu; rfl) (by omega) (by omega) hB2.size ?_; intro v3 w3 hown3 hgr3 hnil3)
    have e3 : [Value.string sb] ++ (l.map fun s => Value.string (txt s)) = (s :: l).map fun s => Value.string (txt s) := by rw [E1.out]; rfl
    rw [e3] at hown3
    obtain ⟨g, cap, rfl, hln, hcp, hg, hcl⟩ := own_cells (by omega) hown3
    have hJ := Tryz.strings_Join g 0 cap ((s :: l).map txt) ⟨#[32]⟩ w3 hcl hg (by simp; omega) (by simp; omega) (by
      rw [map_txt (s :: l)]
      have hk : ∀ x ∈ s :: l, List.length x ≤ 22 := by
        intro x hx
        simp at hx
        rcases hx with rfl | hx
        · exact HN.out
        · exact hmm x hx
      have := join_len (s :: l) 22 hk
      simp at this ⊢
      omega)
    rw [map_txt (s :: l), show ((s :: l).map txt).length = 1 + l.length from by simp; omega] at hJ
    have hB3 : Below w.heap.size w w3 := hB2.grown hgr3 hB2.size (fun k hk => by have : w.heap.size + 1 = k := Option.some.inj hk; omega)
    refine hJ.mono ?_
    rintro e w4 ⟨rfl, hB4⟩
    have HB := Lib.hid (hB3.trans (hB4.mono hB3.size))
    clear hJ hcl hown3 hgr3 hB2 hB3 hB4 hnil3 e3 hR2 hown
    go_wp2_with fail
    go_ret
    exact ⟨rfl, HB.out⟩
end Go.Proofs.YtpbeamnogfjagaaGreatDoor.E
