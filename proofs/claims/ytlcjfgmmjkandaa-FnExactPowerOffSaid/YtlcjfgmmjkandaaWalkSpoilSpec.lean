/-
  The walk of the specification's SpoilSec: one sector more that can't be read, among the others, in memory of its own; else the disk as it was. Condition: the disk weighs at most 2097152.
-/
import Derived.Test.YtlcjfgmmjkandaaWalkDel
import Derived.Test.YtlcjfgmmjkandaaWalkFlush
import Derived.Test.YtlcjfgmmjkandaaWalkL2Has
namespace Go.Proofs.Ytlcjfgmmjkandaa
open Go.RowKit

/-- Whether a sector is spoilt anew; a number among ascending ones; the sectors that can't be read behind it. -/
def spOk (ss : List (List Int)) (cs : List (Int × List Int)) (bs : List Int) (n : Int) : Bool := memB ss cs bs && (inB n 0 ((ss.length : Int) - 1) && !inL bs n)
def insD (bs : List Int) (n : Int) : List Int := bs.take (bs.filter fun x => decide (x ≤ n)).length ++ n :: bs.drop (bs.filter fun x => decide (x ≤ n)).length
def spBS (ss : List (List Int)) (cs : List (Int × List Int)) (bs : List Int) (n : Int) : List Int := if spOk ss cs bs n = true then insD bs n else bs
theorem ins_eq {bs : List Int} {n : Int} {k : Nat} (h1 : ∀ x ∈ bs.take k, x ≤ n) (h2 : ∀ x ∈ bs.drop k, n < x) (hk : k ≤ bs.length) : insD bs n = bs.take k ++ n :: bs.drop k := by
  have e : (bs.filter fun x => decide (x ≤ n)).length = k := by
    have h3 : (bs.take k ++ bs.drop k).filter (fun x => decide (x ≤ n)) = bs.take k := by
      rw [List.filter_append, List.filter_eq_self.2 (fun x hx => by simp [h1 x hx]), List.filter_eq_nil_iff.2 (fun x hx => by have := h2 x hx; simp; omega), List.append_nil]
    rw [List.take_append_drop] at h3
    rw [h3, List.length_take]
    omega
  unfold insD
  rw [e]
theorem bad_lt {ss : List (List Int)} {cs : List (Int × List Int)} {bs : List Int} (h : memB ss cs bs = true) : ∀ i, i + 1 < bs.length → bs.getD i 0 < bs.getD (i + 1) 0 := by
  unfold memB at h
  simp only [Bool.and_eq_true] at h
  have h1 := h.2.2.1
  unfold badB at h1
  rw [List.all_eq_true] at h1
  intro i hi
  have h2 := h1 (i + 1) (List.mem_range.2 hi)
  unfold badAt at h2
  simp at h2
  have h3 := h2.2
  rw [List.getD_eq_getElem?_getD, List.getD_eq_getElem?_getD]
  exact h3
/-- All ahead of one that is not greater are not greater. -/
theorem take_le {bs : List Int} {n : Int} {k : Nat} (ha : ∀ i, i + 1 < bs.length → bs.getD i 0 < bs.getD (i + 1) 0) (hk : k ≤ bs.length) (h : k = 0 ∨ bs.getD (k - 1) 0 ≤ n) : ∀ x ∈ bs.take k, x ≤ n := by
  intro x hx
  obtain ⟨i, hi⟩ := List.mem_iff_getElem?.1 hx
  rw [List.getElem?_take] at hi
  by_cases hik : i < k
  · rw [if_pos hik] at hi
    have hd : bs.getD i 0 = x := by rw [List.getD_eq_getElem?_getD, hi]; rfl
    rcases h with h | h
    · omega
    · have mono : ∀ d, i + d < k → bs.getD i 0 ≤ bs.getD (i + d) 0 := by
        intro d
        induction d with
        | zero => intro _; exact Int.le_refl _
        | succ d ih =>
          intro hd'
          have h1 := ih (by omega)
          have h2 := ha (i + d) (by omega)
          have e : i + d + 1 = i + (d + 1) := by omega
          rw [e] at h2
          omega
      have h3 := mono (k - 1 - i) (by omega)
      have e : i + (k - 1 - i) = k - 1 := by omega
      rw [e, hd] at h3
      omega
  · rw [if_neg hik] at hi
    simp at hi

end Go.Proofs.Ytlcjfgmmjkandaa
