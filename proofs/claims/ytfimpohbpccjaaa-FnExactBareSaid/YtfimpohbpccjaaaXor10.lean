/-
  What XorAt, Even, Bare answer of an array that is right, in plain words. No condition.
-/
import Derived.Test.YtfimpohbpccjaaaWalkWords2
import Derived.Test.YtfimpohbpccjaaaXors
namespace Go.Proofs.Ytfimpohbpccjaaa
open Go.RowKit

def there10 (x : ArrN) (ms : List MemD) (ds : List (Int × List Int)) (s : Int) : Bool := arrB x ms ds && (inB s 0 (x.s - 1) && decide ((missL x ms s x.n.toNat).length = 0))
def xor10 (x : ArrN) (ms : List MemD) (ds : List (Int × List Int)) (s : Int) : Int := if there10 x ms ds s = true then xorL (wordL x ms s x.n.toNat) else 0
def bareL (x : ArrN) (ms : List MemD) (ds : List (Int × List Int)) (j : Nat) : List Nat := (List.range j).filter fun (t : Nat) => !there10 x ms ds (t : Int)
def bare10 (x : ArrN) (ms : List MemD) (ds : List (Int × List Int)) : Int := if arrB x ms ds = true then ((bareL x ms ds x.s.toNat).length : Int) else 0
def evenJ (x : ArrN) (ms : List MemD) (ds : List (Int × List Int)) (j : Nat) : Bool := (List.range j).all fun (t : Nat) => !(there10 x ms ds (t : Int) && decide (xor10 x ms ds (t : Int) ≠ 0))
def even10 (x : ArrN) (ms : List MemD) (ds : List (Int × List Int)) : Bool := evenJ x ms ds x.s.toNat
theorem xorL_snoc (l : List Int) (y : Int) : bits BinOp.xor IntKind.i64 (xorL l) y = xorL (l ++ [y]) := by unfold xorL; rw [List.foldl_append]; rfl
theorem there_no {x : ArrN} {ms : List MemD} {ds : List (Int × List Int)} {s : Int} (h : there10 x ms ds s = false) : xor10 x ms ds s = 0 := by unfold xor10; rw [if_neg (by simp [h])]
theorem there_miss {x : ArrN} {ms : List MemD} {ds : List (Int × List Int)} {s : Int} {j : Nat} (hj : j < x.n.toNat) (h : has6 x ms (j : Int) s = false) : there10 x ms ds s = false := by
  have h1 := missL_mono x ms s (j + 1) x.n.toNat (by omega)
  rw [missL_no h, List.length_append] at h1
  unfold there10
  have : decide ((missL x ms s x.n.toNat).length = 0) = false := by simp only [decide_eq_false_iff_not]; simp at h1; omega
  rw [this]; simp
theorem miss_grow {x : ArrN} {ms : List MemD} {s : Int} {j : Nat} (h0 : missL x ms s j = []) (h : has6 x ms (j : Int) s = true) : missL x ms s (j + 1) = [] := by rw [missL_yes h, h0]
theorem there_all {x : ArrN} {ms : List MemD} {ds : List (Int × List Int)} {s : Int} (ha : arrB x ms ds = true) (hs : inB s 0 (x.s - 1) = true) (h : missL x ms s x.n.toNat = []) : there10 x ms ds s = true ∧ xor10 x ms ds s = xorL (wordL x ms s x.n.toNat) := by
  have h1 : there10 x ms ds s = true := by unfold there10; rw [ha, hs, h]; rfl
  exact ⟨h1, by unfold xor10; rw [if_pos h1]⟩
theorem bareL_yes {x : ArrN} {ms : List MemD} {ds : List (Int × List Int)} {j : Nat} (h : there10 x ms ds (j : Int) = true) : (bareL x ms ds (j + 1)).length = (bareL x ms ds j).length := by unfold bareL; rw [List.range_succ, List.filter_append]; simp [h]
theorem bareL_no {x : ArrN} {ms : List MemD} {ds : List (Int × List Int)} {j : Nat} (h : there10 x ms ds (j : Int) = false) : (bareL x ms ds (j + 1)).length = (bareL x ms ds j).length + 1 := by unfold bareL; rw [List.range_succ, List.filter_append]; simp [h]
theorem bareL_le (x : ArrN) (ms : List MemD) (ds : List (Int × List Int)) (j : Nat) : (bareL x ms ds j).length ≤ j := by unfold bareL; exact Nat.le_trans (List.length_filter_le _ _) (by simp)
theorem evenJ_succ (x : ArrN) (ms : List MemD) (ds : List (Int × List Int)) (j : Nat) : evenJ x ms ds (j + 1) = (evenJ x ms ds j && !(there10 x ms ds (j : Int) && decide (xor10 x ms ds (j : Int) ≠ 0))) := by unfold evenJ; rw [List.range_succ, List.all_append]; simp
theorem evenJ_bad {x : ArrN} {ms : List MemD} {ds : List (Int × List Int)} {j k : Nat} (h : evenJ x ms ds j = false) (hk : j ≤ k) : evenJ x ms ds k = false := by
  induction k with
  | zero => obtain rfl : j = 0 := by omega
            exact h
  | succ k ih =>
    rcases Nat.lt_or_ge k j with h1 | h1
    · obtain rfl : j = k + 1 := by omega
      exact h
    · rw [evenJ_succ, ih h1]; rfl
theorem bare_no {x : ArrN} {ms : List MemD} {ds : List (Int × List Int)} (h : arrB x ms ds = false) : bare10 x ms ds = 0 := by unfold bare10; rw [if_neg (by simp [h])]
theorem bare_of {x : ArrN} {ms : List MemD} {ds : List (Int × List Int)} (h : arrB x ms ds = true) : bare10 x ms ds = ((bareL x ms ds x.s.toNat).length : Int) := by unfold bare10; rw [if_pos h]

end Go.Proofs.Ytfimpohbpccjaaa
