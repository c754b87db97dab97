/-
  What a disk that is MemOk is, and what was last written to a sector: plain lemmas. No condition.
-/
import Derived.Test.YtgjldmjlbhkgbaaWalkMemOk
import Derived.Test.YtgjldmjlbhkgbaaWalkNewest
namespace Go.Proofs.Ytgjldmjlbhkgbaa
open Go.RowKit

theorem mem_writes {ss : List (List Int)} {cs : List (Int × List Int)} {bs : List Int} (h : memB ss cs bs = true) : ∀ x ∈ cs, 0 ≤ x.1 ∧ x.1 ≤ 20 := by
  unfold memB at h
  simp only [Bool.and_eq_true, List.all_eq_true] at h
  obtain ⟨_, h2, _, h4, _⟩ := h
  intro x hx
  have h5 := h2 x hx
  unfold wrB inB at h5
  unfold inB at h4
  simp at h4 h5
  omega
theorem mem_secs {ss : List (List Int)} {cs : List (Int × List Int)} {bs : List Int} (h : memB ss cs bs = true) : ss.length ≤ 20 := by
  unfold memB at h
  simp only [Bool.and_eq_true] at h
  obtain ⟨_, _, _, h4, _⟩ := h
  unfold inB at h4
  simp at h4
  omega

theorem lastW_aux (q : Int) (zs : List Int) : ∀ (l : List (Int × List Int)) (acc : Option (List Int)), l.foldl (fun acc x => if x.1 = q then some x.2 else acc) acc = some zs → acc = some zs ∨ (q, zs) ∈ l
  | [], acc, h => .inl h
  | x :: l, acc, h => by
    rw [List.foldl_cons] at h
    rcases lastW_aux q zs l _ h with h1 | h1
    · by_cases hx : x.1 = q
      · rw [if_pos hx] at h1
        simp at h1
        right
        rw [← hx, ← h1]
        exact List.mem_cons_self
      · rw [if_neg hx] at h1
        exact .inl h1
    · exact .inr (List.mem_cons_of_mem _ h1)
theorem lastW_mem {l : List (Int × List Int)} {q : Int} {zs : List Int} (h : lastW l q = some zs) : (q, zs) ∈ l := by
  rcases lastW_aux q zs l none h with h1 | h1
  · simp at h1
  · exact h1
theorem lastW_le {l : List (Int × List Int)} {q : Int} {zs : List Int} {N : Nat} (hw : wtWrS l ≤ N) (h : lastW l q = some zs) : zs.length ≤ N := by
  obtain ⟨j, hj⟩ := List.mem_iff_getElem?.1 (lastW_mem h)
  exact Nat.le_trans (inner_le' hj) hw

theorem mem_writes_lt {ss : List (List Int)} {cs : List (Int × List Int)} {bs : List Int} (h : memB ss cs bs = true) : ∀ x ∈ cs, ∃ q : Nat, x.1 = (q : Int) ∧ q < ss.length := by
  unfold memB at h
  simp only [Bool.and_eq_true, List.all_eq_true] at h
  obtain ⟨_, h2, _⟩ := h
  intro x hx
  have h5 := h2 x hx
  unfold wrB inB at h5
  simp at h5
  exact ⟨x.1.toNat, by omega, by omega⟩
theorem mem_some {ss : List (List Int)} {cs : List (Int × List Int)} {bs : List Int} (h : memB ss cs bs = true) : 0 < ss.length := by
  unfold memB at h
  simp only [Bool.and_eq_true] at h
  obtain ⟨_, _, _, h4, _⟩ := h
  unfold inB at h4
  simp at h4
  omega
theorem mem_small {ss : List (List Int)} {cs : List (Int × List Int)} {bs : List Int} (h : memB ss cs bs = true) : (∀ x ∈ ss, x.length ≤ 12) ∧ ∀ x ∈ cs, x.2.length ≤ 12 := by
  unfold memB at h
  simp only [Bool.and_eq_true, List.all_eq_true] at h
  obtain ⟨h1, h2, _⟩ := h
  refine ⟨fun x hx => ?_, fun x hx => ?_⟩
  · have := h1 x hx
    unfold secB at this
    simp at this
    omega
  · have := h2 x hx
    unfold wrB secB at this
    simp at this
    omega

end Go.Proofs.Ytgjldmjlbhkgbaa
