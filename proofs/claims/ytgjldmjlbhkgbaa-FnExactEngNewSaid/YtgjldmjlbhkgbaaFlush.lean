/-
  What is in a disk's sectors once writes are put there: the last one of each sector. Plain lemmas. No condition.
-/
import Derived.Test.YtgjldmjlbhkgbaaMemB
namespace Go.Proofs.Ytgjldmjlbhkgbaa
open Go.RowKit

/-- The sectors behind these writes. -/
def flushD (ss : List (List Int)) (ks : List (Int × List Int)) : List (List Int) := (List.range ss.length).map fun (k : Nat) => (lastW ks (k : Int)).getD (ss.getD k [])
/-- .. the first j of them alone. -/
def partD (ss : List (List Int)) (ks : List (Int × List Int)) (j : Nat) : List (List Int) := (List.range ss.length).map fun (k : Nat) => if k < j then (lastW ks (k : Int)).getD (ss.getD k []) else ss.getD k []

theorem flushD_length (ss : List (List Int)) (ks : List (Int × List Int)) : (flushD ss ks).length = ss.length := by unfold flushD; simp
theorem partD_length (ss : List (List Int)) (ks : List (Int × List Int)) (j : Nat) : (partD ss ks j).length = ss.length := by unfold partD; simp
theorem flushD_get {ss : List (List Int)} {ks : List (Int × List Int)} {k : Nat} (h : k < ss.length) : (flushD ss ks)[k]? = some ((lastW ks (k : Int)).getD (ss.getD k [])) := by
  unfold flushD
  rw [List.getElem?_map, List.getElem?_range h]
  rfl
theorem partD_get {ss : List (List Int)} {ks : List (Int × List Int)} {j k : Nat} (h : k < ss.length) : (partD ss ks j)[k]? = some (if k < j then (lastW ks (k : Int)).getD (ss.getD k []) else ss.getD k []) := by
  unfold partD
  rw [List.getElem?_map, List.getElem?_range h]
  rfl
theorem list_ext_lt {α : Type} {l m : List α} {n : Nat} (hl : l.length = n) (hm : m.length = n) (h : ∀ k, k < n → l[k]? = m[k]?) : l = m := by
  apply List.ext_getElem?
  intro k
  by_cases hk : k < n
  · exact h k hk
  · rw [List.getElem?_eq_none (by omega), List.getElem?_eq_none (by omega)]
theorem getD_some {ss : List (List Int)} {k : Nat} (h : k < ss.length) : ss[k]? = some (ss.getD k []) := by
  rw [List.getD_eq_getElem?_getD, List.getElem?_eq_getElem h]
  rfl

theorem flushD_nil (ss : List (List Int)) : flushD ss [] = ss := by
  refine list_ext_lt (flushD_length _ _) rfl (fun k hk => ?_)
  rw [flushD_get hk, getD_some hk]
  rfl
theorem partD_zero (ss : List (List Int)) (ks : List (Int × List Int)) : partD ss ks 0 = ss := by
  refine list_ext_lt (partD_length _ _ _) rfl (fun k hk => ?_)
  rw [partD_get hk, getD_some hk, if_neg (by omega)]
theorem partD_all {ss : List (List Int)} {ks : List (Int × List Int)} {j : Nat} (h : ∀ k : Nat, j ≤ k → k < ss.length → lastW ks (k : Int) = none) : partD ss ks j = flushD ss ks := by
  refine list_ext_lt (partD_length _ _ _) (flushD_length _ _) (fun k hk => ?_)
  rw [partD_get hk, flushD_get hk]
  by_cases hj : k < j
  · rw [if_pos hj]
  · rw [if_neg hj, h k (by omega) hk]
    rfl
theorem partD_some {ss : List (List Int)} {ks : List (Int × List Int)} {j : Nat} {zs : List Int} (hj : j < ss.length) (h : lastW ks (j : Int) = some zs) : partD ss ks (j + 1) = (partD ss ks j).set j zs := by
  refine list_ext_lt (partD_length _ _ _) (by rw [List.length_set]; exact partD_length _ _ _) (fun k hk => ?_)
  rw [partD_get hk]
  by_cases hkj : k = j
  · subst hkj
    rw [if_pos (by omega), h, List.getElem?_set_self (by rw [partD_length]; exact hk)]
    rfl
  · rw [List.getElem?_set_ne (fun e => hkj e.symm), partD_get hk]
    by_cases hl : k < j
    · rw [if_pos hl, if_pos (by omega)]
    · rw [if_neg hl, if_neg (by omega)]
theorem partD_none {ss : List (List Int)} {ks : List (Int × List Int)} {j : Nat} (h : lastW ks (j : Int) = none) : partD ss ks (j + 1) = partD ss ks j := by
  refine list_ext_lt (partD_length _ _ _) (partD_length _ _ _) (fun k hk => ?_)
  rw [partD_get hk, partD_get hk]
  by_cases hkj : k = j
  · subst hkj
    rw [if_pos (by omega), if_neg (by omega), h]
    rfl
  · by_cases hl : k < j
    · rw [if_pos hl, if_pos (by omega)]
    · rw [if_neg hl, if_neg (by omega)]
theorem flushD_snoc {ss : List (List Int)} {ks : List (Int × List Int)} {q : Nat} {zs : List Int} (hq : q < ss.length) : flushD ss (ks ++ [((q : Int), zs)]) = (flushD ss ks).set q zs := by
  refine list_ext_lt (flushD_length _ _) (by rw [List.length_set]; exact flushD_length _ _) (fun k hk => ?_)
  rw [flushD_get hk, lastW_snoc]
  by_cases hkq : k = q
  · subst hkq
    rw [if_pos rfl, List.getElem?_set_self (by rw [flushD_length]; exact hk)]
    rfl
  · rw [if_neg (by simp; omega), List.getElem?_set_ne (fun e => hkq e.symm), flushD_get hk]

theorem sumL_bound : ∀ (l : List Nat) (m : Nat), (∀ x ∈ l, x ≤ m) → sumL l ≤ m * l.length
  | [], m, _ => by simp [sumL]
  | x :: l, m, h => by
    have h1 := sumL_bound l m (fun y hy => h y (List.mem_cons_of_mem _ hy))
    have h2 := h x List.mem_cons_self
    have h3 : sumL (x :: l) = x + sumL l := by simp [sumL]
    rw [h3, List.length_cons, Nat.mul_succ]
    omega
theorem flushD_wt {ss : List (List Int)} {ks : List (Int × List Int)} (hn : ss.length ≤ 20) (hs : ∀ x ∈ ss, x.length ≤ 12) (hk : ∀ x ∈ ks, x.2.length ≤ 12) : wtIntSS (flushD ss ks) ≤ 260 := by
  unfold wtIntSS
  have h1 := sumL_bound ((flushD ss ks).map List.length) 12 (fun x hx => by
    obtain ⟨y, hy, rfl⟩ := List.mem_map.1 hx
    unfold flushD at hy
    obtain ⟨k, hkr, rfl⟩ := List.mem_map.1 hy
    have hkl : k < ss.length := List.mem_range.1 hkr
    cases h : lastW ks (k : Int) with
    | some zs => exact hk _ (lastW_mem h)
    | none => exact hs _ (List.mem_of_getElem? (getD_some hkl)))
  rw [List.length_map, flushD_length] at h1
  rw [flushD_length]
  omega

end Go.Proofs.Ytgjldmjlbhkgbaa
