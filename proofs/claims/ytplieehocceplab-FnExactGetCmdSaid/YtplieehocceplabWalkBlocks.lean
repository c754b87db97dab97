/-
  The walks of both Blocks and of what tells a stripe (the program's and the specification's). No condition.
-/
import Derived.Test.YtplieehocceplabWalkGeo
namespace Go.Proofs.Ytplieehocceplab
open Go.RowKit

theorem stripeB_of {n s t : Int} : stripeB n s t = true ↔ geoB n s = true ∧ 0 ≤ t ∧ t < s := by unfold stripeB; rw [Bool.and_eq_true, inB_iff]; constructor <;> (rintro ⟨a, b⟩; exact ⟨a, by omega⟩)
theorem stripeB_not {n s t : Int} : stripeB n s t = false ↔ ¬ (geoB n s = true ∧ 0 ≤ t ∧ t < s) := by rw [← stripeB_of]; simp

theorem blockB_of {n s b : Int} : blockB n s b = true ↔ 0 ≤ b ∧ b < blocksN n s := by unfold blockB; rw [inB_iff]; omega
theorem blockB_not {n s b : Int} : blockB n s b = false ↔ ¬ (0 ≤ b ∧ b < blocksN n s) := by rw [← blockB_of]; simp
theorem blockB_geo {n s b : Int} (h : blockB n s b = true) : geoB n s = true := by
  rw [blockB_of] at h
  by_cases hg : geoB n s = true
  · exact hg
  · rw [blocksN_not (by simpa using hg)] at h
    omega

end Go.Proofs.Ytplieehocceplab
