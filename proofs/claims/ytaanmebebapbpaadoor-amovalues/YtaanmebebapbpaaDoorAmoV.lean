/-
  Plain mathematics of layer 8 (amo): what an op makes of what was found and a register's number, as functions of whole numbers.
  Conditions: none; nothing here speaks of the program.
-/
import Derived.Test.YtaanmebebapbpaaDoorAluN
namespace Go.Proofs.YtaanmebebapbpaaDoor.A
open Go Go.RowKit W D
set_option linter.unusedVariables false

def sndV (a b : Int) : Int := b
def minU (a b : Int) : Int := if a ≤ b then a else b
def maxU (a b : Int) : Int := if a ≤ b then b else a
def minS (a b : Int) : Int := if wrap64 a ≤ wrap64 b then a else b
def maxS (a b : Int) : Int := if wrap64 a ≤ wrap64 b then b else a
def tWork : Tb := [(97, maxU), (96, minU), (95, maxS), (94, minS), (93, orV), (92, andV), (91, xorV), (90, sumV), (89, sndV), (88, sndV)]
def dblV (o a b : Int) : Int := match look tWork o with | some f => f a b | none => a
def szV (o : Int) : Int := if kindV o = 13 then 4 else if kindV o = 14 then 8 else 0
def toldV (o a : Int) : Int := if kindV o = 13 then sextV a 32 else a
def newV (o a b : Int) : Int := if kindV o = 13 then dblV (o + 11) (toldV o a) (toldV o b) % 4294967296 else dblV o a b

def befV (a b : Int) (s : Bool) : Bool := if s = true then ltS a b else ltU a b

theorem min_bd {a b : Int} (ha : B64 a) (hb : B64 b) : B64 (minU a b) := by unfold minU; split <;> assumption
theorem max_bd {a b : Int} (ha : B64 a) (hb : B64 b) : B64 (maxU a b) := by unfold maxU; split <;> assumption
theorem minS_bd {a b : Int} (ha : B64 a) (hb : B64 b) : B64 (minS a b) := by unfold minS; split <;> assumption
theorem maxS_bd {a b : Int} (ha : B64 a) (hb : B64 b) : B64 (maxS a b) := by unfold maxS; split <;> assumption
theorem told_bd {o a : Int} (ha : B64 a) : B64 (toldV o a) := by
  unfold toldV; split
  · exact lowS_bd ha
  · exact ha
theorem look_mem {P : (Int → Int → Int) → Prop} (o : Int) : ∀ (L : Tb), (∀ k f, (k, f) ∈ L → P f) → ∀ f, look L o = some f → P f
  | [], _, f, h => by simp [look] at h
  | (k, g) :: L, hL, f, h => by
    rw [look] at h
    split at h
    · injection h with h; subst h; exact hL k g (by simp)
    · exact look_mem o L (fun k f hm => hL k f (by simp [hm])) f h
theorem dbl_bd {o a b : Int} (ha : B64 a) (hb : B64 b) : B64 (dblV o a b) := by
  unfold dblV
  split
  · rename_i f hf
    refine look_mem (P := fun f => B64 (f a b)) o tWork ?_ f hf
    intro k f hm
    simp only [tWork, List.mem_cons, Prod.mk.injEq, List.not_mem_nil, or_false] at hm
    rcases hm with ⟨_, rfl⟩ | ⟨_, rfl⟩ | ⟨_, rfl⟩ | ⟨_, rfl⟩ | ⟨_, rfl⟩ | ⟨_, rfl⟩ | ⟨_, rfl⟩ | ⟨_, rfl⟩ | ⟨_, rfl⟩ | ⟨_, rfl⟩
    · exact max_bd ha hb
    · exact min_bd ha hb
    · exact maxS_bd ha hb
    · exact minS_bd ha hb
    · exact or_bd ha hb
    · exact and_bd ha hb
    · exact xor_bd ha hb
    · exact sum_bd a b
    · exact hb
    · exact hb
  · exact ha
theorem new_bd {o a b : Int} (ha : B64 a) (hb : B64 b) : B64 (newV o a b) := by
  unfold newV; split
  · have := dbl_bd (o := o + 11) (told_bd (o := o) ha) (told_bd (o := o) hb)
    unfold B64 at *; omega
  · exact dbl_bd ha hb
theorem kind13 (o : Int) (h : kindV o = 13) : 75 < o ∧ o ≤ 86 := by
  unfold kindV at h
  repeat' split at h
  all_goals omega
theorem kind14 (o : Int) (h : kindV o = 14) : 86 < o ∧ o ≤ 97 := by
  unfold kindV at h
  repeat' split at h
  all_goals omega
end Go.Proofs.YtaanmebebapbpaaDoor.A
