/-
  The walks of both FailMem: the disk failed, its cache empty, in memory of its own. Condition: the disk weighs at most 2097152.
-/
import Derived.Test.YtgjldmjlbhkgbaaWalkCopy
import Derived.Test.YtgjldmjlbhkgbaaWalkCopySpec
namespace Go.Proofs.Ytgjldmjlbhkgbaa
open Go.RowKit

theorem copy_shapes {w w' : World} {e : Ending} {n0 n1 n3 : Nat} {ss : List (List Int)} {cs : List (Int × List Int)} {f : Bool} {bs : List Int} (hl0 : ss.length = n0) (hl1 : cs.length = n1) (hl3 : bs.length = n3)
    (h : ∃ v0 v1 v3 m1 m2, e = .returned (.agg #[v0, v1, .bool f, v3]) ∧ tIntS.Own w' w.heap.size m1 [v3] bs ∧ tIntSS.Own w' m1 m2 [v0] ss ∧ (tWrS 100).Own w' m2 w'.heap.size [v1] cs ∧ m1 ≤ m2 ∧ w.heap.size ≤ m1 ∧ m2 ≤ w'.heap.size ∧ Below w.heap.size w w') :
    ∃ b0 b1 b3 e0 e1 e3 m1 m2, e = .returned (.agg #[.slice b0 n0 e0, .slice b1 n1 e1, .bool f, .slice b3 n3 e3]) ∧ tIntS.Own w' w.heap.size m1 [.slice b3 n3 e3] bs ∧ tIntSS.Own w' m1 m2 [.slice b0 n0 e0] ss ∧ (tWrS 100).Own w' m2 w'.heap.size [.slice b1 n1 e1] cs ∧ m1 ≤ m2 ∧ w.heap.size ≤ m1 ∧ m2 ≤ w'.heap.size ∧ Below w.heap.size w w' := by
  obtain ⟨v0, v1, v3, m1, m2, rfl, o3, o0, o1, r⟩ := h
  obtain ⟨b0, e0, hv0⟩ := row_shape o0.rd
  obtain ⟨b1, e1, hv1⟩ := row_shape o1.rd
  obtain ⟨b3, e3, hv3⟩ := row_shape o3.rd
  rw [hl0] at hv0
  rw [hl1] at hv1
  rw [hl3] at hv3
  subst hv0 hv1 hv3
  exact ⟨b0, b1, b3, e0, e1, e3, m1, m2, rfl, o3, o0, o1, r⟩

end Go.Proofs.Ytgjldmjlbhkgbaa
