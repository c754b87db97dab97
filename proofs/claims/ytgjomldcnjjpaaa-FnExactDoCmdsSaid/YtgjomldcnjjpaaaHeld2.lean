/-
  A region in which two operations may come up next: a plain lemma. No condition.
-/
import Derived.Test.YtgjomldcnjjpaaaHeld
namespace Go.Proofs.Ytgjomldcnjjpaaa
open Go.RowKit

section
variable {P : Program} {ops : Array Oper} {Q : Exit → Act → World → Prop} {S : World → Prop}
/-- Two may come up next. -/
theorem held_two {i i' : Nat} {o o' : Oper} {fuel : Nat} {l : Array Bool} {a : Act} {w : World} {tl tl' : List Oper} (hr : Region.ready .any ops l = [i, i']) (ho : ops.toList.drop i = o :: tl) (ho' : ops.toList.drop i' = o' :: tl') (hw : Region.wanted o (yielded ops a.tmps) = true) (hw' : Region.wanted o' (yielded ops a.tmps) = true)
    (h : ∀ K' : Act → World → Prop, Shut (∀ a w, S w → (S w → wpAnyH P .any ops Q S fuel (l.setIfInBounds i true) a w) → K' a w) → Oper.wp P o a w K' Q)
    (h' : ∀ K' : Act → World → Prop, Shut (∀ a w, S w → (S w → wpAnyH P .any ops Q S fuel (l.setIfInBounds i' true) a w) → K' a w) → Oper.wp P o' a w K' Q) : wpAnyH P .any ops Q S (fuel + 1) l a w :=
  wpAnyH_ready hr (by simp) (AllReadyH.cons (op_at ho) (fun K' hK => by rw [if_pos hw]; exact h K' hK) (AllReadyH.cons (op_at ho') (fun K' hK => by rw [if_pos hw']; exact h' K' hK) AllReadyH.nil))
end

end Go.Proofs.Ytgjomldcnjjpaaa
