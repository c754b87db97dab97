/-
  A Super as words: both PutSuper (the program's and the specification's) answer the nine words in memory of their own, or none; the laws' copy and comparison of Supers. No condition.
-/
import Derived.Test.YtialakmmifhliaaWalkSuper
import Derived.Test.YtialakmmifhliaaWalkCopyWords
import Derived.Test.YtialakmmifhliaaOwnLen
namespace Go.Proofs.Ytialakmmifhliaa
open Go.RowKit

theorem nine9 {l : List Int} (h : l.length = 9) : ∃ a b c d e f g i j : Int, l = [a, b, c, d, e, f, g, i, j] := by
  match l, h with
  | [a, b, c, d, e, f, g, i, j], _ => exact ⟨a, b, c, d, e, f, g, i, j, rfl⟩

def putD (x : Sup) : List Int := if supB x = true then [21317, x.id, x.gen, x.role, x.n, x.s, x.tail, x.lost + 1, x.built] else []
theorem putD_of {x : Sup} (h : supB x = true) : putD x = [21317, x.id, x.gen, x.role, x.n, x.s, x.tail, x.lost + 1, x.built] := by unfold putD; rw [if_pos h]
theorem putD_not {x : Sup} (h : supB x = false) : putD x = [] := by unfold putD; rw [if_neg (by simp [h])]

end Go.Proofs.Ytialakmmifhliaa
