/-
  The walks of both PutSec (the program's and the specification's) and of what they call. Conditions: the slices lie within the laws' own bound on their length.
-/
import Derived.Test.YtoomkkcobgeinaaWalkBytes
import Derived.Test.YtoomkkcobgeinaaWalkSecOk
namespace Go.Proofs.Ytoomkkcobgeinaa
open Go.RowKit

/-- Each word in two bytes, the higher first. -/
def wordsL (l : List Int) : List Int := l.flatMap fun n => [n / 256, n % 256]

theorem wordsL_step {xs : List Int} {j : Nat} {x : Int} (h : j < xs.length) (hx : xs.getD j 0 = x) : wordsL (xs.take (j + 1)) = wordsL (xs.take j) ++ [x / 256, x % 256] := by
  have e : xs[j] = x := by rw [← hx]; simp [List.getElem?_eq_getElem h]
  unfold wordsL
  rw [List.take_succ_eq_append_getElem h, List.flatMap_append, e]
  rfl

theorem wordsL_length (l : List Int) : (wordsL l).length = 2 * l.length := by
  induction l with
  | nil => rfl
  | cons x l ih => unfold wordsL at *; rw [List.flatMap_cons, List.length_append, ih]; simp; omega

theorem allW_at {xs : List Int} {j : Nat} {x : Int} (h : j < xs.length) (hx : xs.getD j 0 = x) (hw : allW xs = true) : 0 ≤ x ∧ x ≤ 65535 := by
  have e : xs[j] = x := by rw [← hx]; simp [List.getElem?_eq_getElem h]
  unfold allW at hw
  rw [List.all_eq_true] at hw
  have := hw x (by rw [← e]; exact List.getElem_mem h)
  simpa [isW] using this

/-- The bytes behind b that say the sector s; b where it is none. -/
def putL (b s : List Int) : List Int := if secB s = true then b ++ ((s.length : Int) :: wordsL s) else b

end Go.Proofs.Ytoomkkcobgeinaa
