/-
  The document's own Word (package suzerainref04) answers as the program's: a contract over the translation.
  Conditions: the argument is a word.
-/
import Derived.Test.YtpbeamnogfjagaaGreatDoorDecWA
import Derived.Test.YtpbeamnogfjagaaGreatDoorDecWB
import Derived.Test.YtpbeamnogfjagaaGreatDoorDecWC
namespace Go.Proofs.YtpbeamnogfjagaaGreatDoor.refWord
open Go Go.RowKit F W M D
set_option linter.unusedVariables false
set_option maxRecDepth 100000

theorem ranges (o : Int) (h0 : 0 ≤ o) (h1 : o ≤ 97) : o = 0 ∨ (1 ≤ o ∧ o ≤ 2) ∨ o = 3 ∨ o = 4 ∨ (5 ≤ o ∧ o ≤ 10) ∨ (11 ≤ o ∧ o ≤ 17) ∨ (18 ≤ o ∧ o ≤ 21) ∨ (22 ≤ o ∧ o ≤ 27) ∨ (28 ≤ o ∧ o ≤ 30) ∨ (31 ≤ o ∧ o ≤ 40) ∨ o = 41
    ∨ (42 ≤ o ∧ o ≤ 44) ∨ (45 ≤ o ∧ o ≤ 49) ∨ (50 ≤ o ∧ o ≤ 57) ∨ (58 ≤ o ∧ o ≤ 62) ∨ (63 ≤ o ∧ o ≤ 68) ∨ o = 69 ∨ (70 ≤ o ∧ o ≤ 75) ∨ o = 76 ∨ (77 ≤ o ∧ o ≤ 86) ∨ o = 87 ∨ (88 ≤ o ∧ o ≤ 97) := by omega
/-- The document's own Word answers as the program's. -/
theorem rWord_c (x : Nat) (hx : x < 4294967296) (w : World) :
    Calls Tryz.prog 15 #[.int .u32 x] w fun e w' => e = .returned (.agg (insn 4 (D.wordV x))) ∧ w.grownBy w' none := by
  obtain ⟨o0, o1, hS⟩ := word_shape x
  rw [hS]
  clear hS
  generalize hO : (D.wordV x).1 = o at *
  rcases ranges o o0 o1 with rfl | h | rfl | rfl | h | h | h | h | h | h | rfl | h | h | h | h | h | rfl | h | rfl | h | rfl | h
  · rw [shape0 0 x (by decide)]; exact way_none x hx hO w
  · rw [shape1 o x h]; exact way_k1 x hx o hO h w
  · rw [shape2 3 x (by decide)]; exact way_jal x hx hO w
  · rw [shape3 4 x (by decide)]; exact way_jalr x hx hO w
  · rw [shape4 o x h]; exact way_k2 x hx o hO h w
  · rw [shape5 o x h]; exact way_k3 x hx o hO h w
  · rw [shape6 o x h]; exact way_k4 x hx o hO h w
  · rw [shape7 o x h]; exact way_k5a x hx o hO h w
  · rw [shape8 o x h]; exact way_k5b x hx o hO h w
  · rw [shape9 o x h]; exact way_k6 x hx o hO h w
  · rw [shape10 41 x (by decide)]; exact way_k7a x hx hO w
  · rw [shape11 o x h]; exact way_k7b x hx o hO h w
  · rw [shape12 o x (by omega)]; exact way_k8 x hx o hO h w
  · rw [shape12 o x (by omega)]; exact way_k9 x hx o hO h w
  · rw [shape12 o x (by omega)]; exact way_k10 x hx o hO h w
  · rw [shape13 o x h]; exact way_k11 x hx o hO h w
  · rw [shape14 69 x (by decide)]; exact way_sfence x hx hO w
  · rw [shape15 o x h]; exact way_k12 x hx o hO h w
  · rw [shape16 76 x (by decide)]; exact way_lrw x hx hO w
  · rw [shape17 o x h]; exact way_k13 x hx o hO h w
  · rw [shape18 87 x (by decide)]; exact way_lrd x hx hO w
  · rw [shape19 o x (by omega)]; exact way_k14 x hx o hO h w
end Go.Proofs.YtpbeamnogfjagaaGreatDoor.refWord
