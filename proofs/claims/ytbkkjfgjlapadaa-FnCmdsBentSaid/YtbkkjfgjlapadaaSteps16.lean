/-
  How often a command is to be worked on: how many parts it has, and the answer. No condition.
-/
import Derived.Test.YtbkkjfgjlapadaaWalkCmd
import Derived.Test.YtbkkjfgjlapadaaWalkBlockAt
namespace Go.Proofs.Ytbkkjfgjlapadaa
open Go.RowKit

def partsC (gn gs o b k : Int) (zs : List Int) : Int := if o = 3 then lenC o k zs + (stripeN gn gs (b + lenC o k zs - 1) - stripeN gn gs b + 1) else if o = 4 then gs else if o = 5 then 1 else lenC o k zs
def stepsC (gn gs o d b k : Int) (zs : List Int) : Int := if codeC gn gs o d b k zs = 0 then partsC gn gs o b k zs + 1 else 0

theorem stripeN_small (n s b : Int) : -1 ≤ stripeN n s b ∧ stripeN n s b ≤ 31 := by
  unfold stripeN
  split
  · rename_i hb
    have h1 := blockB_of.1 hb
    have h2 := blocksN_range n s
    obtain ⟨h3, h4, h5, h6⟩ := geoB_iff.1 (blockB_geo hb)
    have h7 : n = 3 ∨ n = 4 ∨ n = 5 := by omega
    rcases h7 with rfl | rfl | rfl <;> constructor <;> omega
  · omega
theorem parts3 {gn gs b k : Int} {zs : List Int} : partsC gn gs 3 b k zs = lenC 3 k zs + (stripeN gn gs (b + lenC 3 k zs - 1) - stripeN gn gs b + 1) := rfl
theorem parts4 {gn gs b k : Int} {zs : List Int} : partsC gn gs 4 b k zs = gs := rfl
theorem parts5 {gn gs b k : Int} {zs : List Int} : partsC gn gs 5 b k zs = 1 := rfl
theorem parts_else {gn gs o b k : Int} {zs : List Int} (h3 : ¬ o = 3) (h4 : ¬ o = 4) (h5 : ¬ o = 5) : partsC gn gs o b k zs = lenC o k zs := by unfold partsC; rw [if_neg h3, if_neg h4, if_neg h5]
theorem steps_good {gn gs o d b k : Int} {zs : List Int} (h : codeC gn gs o d b k zs = 0) : stepsC gn gs o d b k zs = partsC gn gs o b k zs + 1 := by unfold stepsC; rw [if_pos h]
theorem steps_bad {gn gs o d b k : Int} {zs : List Int} (h : ¬ codeC gn gs o d b k zs = 0) : stepsC gn gs o d b k zs = 0 := by unfold stepsC; rw [if_neg h]
/-- What is known of a command that is right. -/
theorem good_small {gn gs o d b k : Int} {zs : List Int} (h : codeC gn gs o d b k zs = 0) : 0 ≤ lenC o k zs ∧ lenC o k zs ≤ 6 ∧ 1 ≤ gs ∧ gs ≤ 8 ∧ (¬ o = 4 → 0 ≤ b ∧ b ≤ 32) := by
  obtain ⟨h1, h2, h3⟩ := code_good13 h
  obtain ⟨l0, l1, _⟩ := size_len h2
  have hb := blocksN_range gn gs
  have hg : geoB gn gs = true := by
    unfold formC at h1
    simp only [Bool.and_eq_true] at h1
    exact h1.1.1
  obtain ⟨_, _, g3, g4⟩ := geoB_iff.1 hg
  exact ⟨l0, l1, g3, g4, fun h4 => by rcases h3 with h3 | h3 <;> omega⟩
theorem parts_small {gn gs o d b k : Int} {zs : List Int} (h : codeC gn gs o d b k zs = 0) : -64 ≤ partsC gn gs o b k zs ∧ partsC gn gs o b k zs ≤ 64 := by
  obtain ⟨l0, l1, g3, g4, _⟩ := good_small h
  have s1 := stripeN_small gn gs (b + lenC o k zs - 1)
  have s2 := stripeN_small gn gs b
  unfold partsC
  split
  · omega
  · split
    · omega
    · split <;> omega

end Go.Proofs.Ytbkkjfgjlapadaa
