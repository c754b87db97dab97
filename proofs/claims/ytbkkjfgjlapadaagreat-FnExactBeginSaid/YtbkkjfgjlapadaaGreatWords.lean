/-
  Words, and lists of them. No condition; nothing of the program is named here.
-/
import Derived.Test.YtbkkjfgjlapadaaGreatKit
namespace Go.Proofs.YtbkkjfgjlapadaaGreat
open Go.RowKit

/-- A word. -/
def isW (n : Int) : Bool := decide (0 ≤ n) && decide (n ≤ 65535)
def allW (l : List Int) : Bool := l.all isW
def secB (l : List Int) : Bool := decide (l.length ≤ 12) && allW l

theorem allW_step {zs : List Int} {j : Nat} {x : Int} (h : j < zs.length) (hx : zs.getD j 0 = x) :
    (isW x = true → allW (zs.take j) = true → allW (zs.take (j + 1)) = true) ∧ (isW x = false → allW zs = false) := by
  have e : zs[j] = x := by rw [← hx]; simp [List.getElem?_eq_getElem h]
  refine ⟨fun h1 h2 => ?_, fun h1 => ?_⟩
  · unfold allW at *
    rw [List.take_succ_eq_append_getElem h, List.all_append, h2, e]
    simp [h1]
  · unfold allW
    rw [List.all_eq_false]
    exact ⟨x, by rw [← e]; exact List.getElem_mem h, by simp [h1]⟩

end Go.Proofs.YtbkkjfgjlapadaaGreat
