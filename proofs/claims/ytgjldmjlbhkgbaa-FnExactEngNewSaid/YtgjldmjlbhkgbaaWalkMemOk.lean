/-
  The walk of the specification's MemOk: whether a disk is right. Condition: it weighs at most 2097152.
-/
import Derived.Test.YtgjldmjlbhkgbaaData
import Derived.Test.YtgjldmjlbhkgbaaWalkSecOk
namespace Go.Proofs.Ytgjldmjlbhkgbaa
open Go.RowKit

/-- A write is right on a disk of n sectors. -/
def wrB (n : Int) (x : Int × List Int) : Bool := inB x.1 0 (n - 1) && secB x.2
/-- Bad sectors are there, and ascend. -/
def badAt (n : Int) (bs : List Int) (i : Nat) : Bool := inB (bs.getD i 0) 0 (n - 1) && (decide (i = 0) || decide (bs.getD (i - 1) 0 < bs.getD i 0))
def badB (n : Int) (bs : List Int) : Bool := (List.range bs.length).all (badAt n bs)
def memB (ss : List (List Int)) (cs : List (Int × List Int)) (bs : List Int) : Bool :=
  ss.all secB && (cs.all (wrB ss.length) && (badB ss.length bs && (inB ss.length 1 20 && decide (cs.length ≤ 60))))

theorem all_step {α : Type} {p : α → Bool} {l : List α} {j : Nat} {x : α} (h : l[j]? = some x) : (p x = true → (l.take j).all p = true → (l.take (j + 1)).all p = true) ∧ (p x = false → l.all p = false) := by
  have hj : j < l.length := (List.getElem?_eq_some_iff.1 h).1
  have e : l[j] = x := by rw [List.getElem?_eq_getElem hj] at h; simpa using h
  refine ⟨fun h1 h2 => ?_, fun h1 => ?_⟩
  · rw [List.take_succ_eq_append_getElem hj, List.all_append, h2, e]
    simp [h1]
  · rw [List.all_eq_false]
    exact ⟨x, by rw [← e]; exact List.getElem_mem hj, by simp [h1]⟩

end Go.Proofs.Ytgjldmjlbhkgbaa
