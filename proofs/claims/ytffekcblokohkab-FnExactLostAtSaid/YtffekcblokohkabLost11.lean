/-
  What LostAt answers of an array, in plain words. No condition.
-/
import Derived.Test.YtffekcblokohkabWalkWords2
namespace Go.Proofs.Ytffekcblokohkab
open Go.RowKit

def lostK (x : ArrN) (ms : List MemD) (ds : List (Int × List Int)) (s : Int) : Bool := arrB x ms ds && inB s 0 (x.s - 1)
def lost11 (x : ArrN) (ms : List MemD) (ds : List (Int × List Int)) (s : Int) : Int := if lostK x ms ds s = true then ((missL x ms s x.n.toNat).length : Int) else x.n
theorem lost_no {x : ArrN} {ms : List MemD} {ds : List (Int × List Int)} {s : Int} (h : lostK x ms ds s = false) : lost11 x ms ds s = x.n := by unfold lost11; rw [if_neg (by simp [h])]
theorem lost_of {x : ArrN} {ms : List MemD} {ds : List (Int × List Int)} {s : Int} (h : lostK x ms ds s = true) : lost11 x ms ds s = ((missL x ms s x.n.toNat).length : Int) := by unfold lost11; rw [if_pos h]
theorem missN_yes {x : ArrN} {ms : List MemD} {s : Int} {j : Nat} (h : has6 x ms (j : Int) s = true) : (missL x ms s (j + 1)).length = (missL x ms s j).length := by rw [missL_yes h]
theorem missN_no {x : ArrN} {ms : List MemD} {s : Int} {j : Nat} (h : has6 x ms (j : Int) s = false) : (missL x ms s (j + 1)).length = (missL x ms s j).length + 1 := by rw [missL_no h, List.length_append]; rfl
theorem missN_le (x : ArrN) (ms : List MemD) (s : Int) (j : Nat) : (missL x ms s j).length ≤ j := by unfold missL; exact Nat.le_trans (List.length_filter_le _ _) (by simp)

end Go.Proofs.Ytffekcblokohkab
