/-
  The words of a stripe (words6: of one disk at most that of the others), and the walks of the specification's looks for them. Condition: the array weighs at most 2097152.
-/
import Derived.Test.YtffekcblokohkabWalkWords
import Derived.Test.YtffekcblokohkabWalkMissing
namespace Go.Proofs.Ytffekcblokohkab
open Go.RowKit

def wordL (x : ArrN) (ms : List MemD) (s : Int) (j : Nat) : List Int := (List.range j).map fun (i : Nat) => word6 x ms (i : Int) s
def missL (x : ArrN) (ms : List MemD) (s : Int) (j : Nat) : List Nat := (List.range j).filter fun (i : Nat) => !has6 x ms (i : Int) s
def lostN : List Nat → Int
  | [] => -1
  | p :: _ => (p : Int)
def wordsB (x : ArrN) (ms : List MemD) (s : Int) : Bool := decide ((missL x ms s x.n.toNat).length ≤ 1)
def words6 (x : ArrN) (ms : List MemD) (s : Int) : List Int :=
  match missL x ms s x.n.toNat with
  | [] => wordL x ms s x.n.toNat
  | [p] => (wordL x ms s x.n.toNat).set p (skipL (wordL x ms s x.n.toNat) (p : Int) x.n.toNat)
  | _ => []
theorem wordL_succ (x : ArrN) (ms : List MemD) (s : Int) (j : Nat) : wordL x ms s (j + 1) = wordL x ms s j ++ [word6 x ms (j : Int) s] := by unfold wordL; rw [List.range_succ, List.map_append]; rfl
theorem wordL_len (x : ArrN) (ms : List MemD) (s : Int) (j : Nat) : (wordL x ms s j).length = j := by unfold wordL; simp
theorem missL_yes {x : ArrN} {ms : List MemD} {s : Int} {j : Nat} (h : has6 x ms (j : Int) s = true) : missL x ms s (j + 1) = missL x ms s j := by unfold missL; rw [List.range_succ, List.filter_append]; simp [h]
theorem missL_no {x : ArrN} {ms : List MemD} {s : Int} {j : Nat} (h : has6 x ms (j : Int) s = false) : missL x ms s (j + 1) = missL x ms s j ++ [j] := by unfold missL; rw [List.range_succ, List.filter_append]; simp [h]
theorem missL_mono (x : ArrN) (ms : List MemD) (s : Int) (j k : Nat) (h : j ≤ k) : (missL x ms s j).length ≤ (missL x ms s k).length := by
  induction k with
  | zero => obtain rfl : j = 0 := by omega
            exact Nat.le_refl _
  | succ k ih =>
    rcases Nat.lt_or_ge k j with h1 | h1
    · obtain rfl : j = k + 1 := by omega
      exact Nat.le_refl _
    · refine Nat.le_trans (ih h1) ?_
      cases hh : has6 x ms (k : Int) s with
      | true => rw [missL_yes hh]; exact Nat.le_refl _
      | false => rw [missL_no hh]; simp
theorem missL_lt {x : ArrN} {ms : List MemD} {s : Int} {j p : Nat} (h : p ∈ missL x ms s j) : p < j := by
  unfold missL at h
  exact List.mem_range.1 (List.mem_filter.1 h).1
theorem words_two {x : ArrN} {ms : List MemD} {s : Int} {j : Nat} (h : 2 ≤ (missL x ms s j).length) (hj : j ≤ x.n.toNat) : wordsB x ms s = false ∧ words6 x ms s = [] := by
  have h2 := Nat.le_trans h (missL_mono x ms s j x.n.toNat hj)
  refine ⟨by unfold wordsB; simp; omega, ?_⟩
  unfold words6
  match hm : missL x ms s x.n.toNat, h2 with
  | _ :: _ :: _, _ => rfl
theorem words_none {x : ArrN} {ms : List MemD} {s : Int} (h : missL x ms s x.n.toNat = []) : wordsB x ms s = true ∧ words6 x ms s = wordL x ms s x.n.toNat := by
  refine ⟨by unfold wordsB; rw [h]; rfl, ?_⟩
  unfold words6
  rw [h]
theorem words_one {x : ArrN} {ms : List MemD} {s : Int} {p : Nat} (h : missL x ms s x.n.toNat = [p]) : wordsB x ms s = true ∧ words6 x ms s = (wordL x ms s x.n.toNat).set p (skipL (wordL x ms s x.n.toNat) (p : Int) x.n.toNat) := by
  refine ⟨by unfold wordsB; rw [h]; rfl, ?_⟩
  unfold words6
  rw [h]
theorem owns_some6 {k : IntKind} {E : TypeId} {w : World} {lo : Nat} {v : Value} {zs : List Int} (h : Owns k E w lo v zs) (hn : 0 < zs.length) : ∃ g cap, v = .slice (some ⟨g, 0, none⟩) zs.length cap ∧ lo ≤ g ∧ g < w.heap.size ∧ zs.length ≤ cap ∧ cap ≤ maxLen := by
  rcases h.2 with ⟨_, h0⟩ | ⟨g, cap, cur, hv, hb, hg, hnc, hcm, _⟩
  · omega
  · exact ⟨g, cap, hv, hb, (Array.getElem?_eq_some_iff.1 hg).1, hnc, hcm⟩
theorem list_cases {l : List Nat} (h : l.length ≤ 1) : l = [] ∨ ∃ p, l = [p] := by
  match l, h with
  | [], _ => exact .inl rfl
  | [p], _ => exact .inr ⟨p, rfl⟩

def okB6 (x : ArrN) (ms : List MemD) (ds : List (Int × List Int)) (s : Int) : Bool := arrB x ms ds && (!x.broken && inB s 0 (x.s - 1))
def wordsOk6 (x : ArrN) (ms : List MemD) (ds : List (Int × List Int)) (s : Int) : Bool := okB6 x ms ds s && wordsB {x with broken := false} ms s
def wordsL6 (x : ArrN) (ms : List MemD) (ds : List (Int × List Int)) (s : Int) : List Int := if okB6 x ms ds s = true then words6 {x with broken := false} ms s else []

end Go.Proofs.Ytffekcblokohkab
