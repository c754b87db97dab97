/-
  The walks of the laws' helpers that compare slices of slices of int, writes, and disks: whether both read alike. Condition: the first weighs at most 2097152.
-/
import Derived.Test.YtbkkjfgjlapadaaWalkTo
namespace Go.Proofs.Ytbkkjfgjlapadaa
open Go.RowKit

/-- Whether two are the same, under a name that the walk does not open. -/
def sameB {α : Type} [DecidableEq α] (x y : α) : Bool := decide (x = y)
theorem sameB_self {α : Type} [DecidableEq α] (x : α) : sameB x x = true := by simp [sameB]
theorem sameB_not {α : Type} [DecidableEq α] {x y : α} (h : x ≠ y) : sameB x y = false := by simp [sameB, h]

end Go.Proofs.Ytbkkjfgjlapadaa
