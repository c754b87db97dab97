/-
  The walk of the specification's l2Has: whether a number is among them. Condition: at most 2097152 elements.
-/
import Derived.Test.YthkpkpclmemodaaGreatWalkSecOk
namespace Go.Proofs.YthkpkpclmemodaaGreat
open Go.RowKit

def inL (zs : List Int) (n : Int) : Bool := zs.any fun x => decide (x = n)

theorem inL_step {zs : List Int} {n x : Int} {j : Nat} (h : j < zs.length) (hx : zs.getD j 0 = x) : (x = n → inL zs n = true) ∧ (x ≠ n → inL (zs.take j) n = false → inL (zs.take (j + 1)) n = false) := by
  have e : zs[j] = x := by rw [← hx]; simp [List.getElem?_eq_getElem h]
  refine ⟨fun h1 => ?_, fun h1 h2 => ?_⟩
  · unfold inL
    rw [List.any_eq_true]
    exact ⟨x, by rw [← e]; exact List.getElem_mem h, by simp [h1]⟩
  · unfold inL at *
    rw [List.take_succ_eq_append_getElem h, List.any_append, h2, e]
    simp [h1]

end Go.Proofs.YthkpkpclmemodaaGreat
