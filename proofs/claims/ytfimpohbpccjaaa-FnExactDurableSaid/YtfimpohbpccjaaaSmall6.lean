/-
  The words of a stripe, and of its blocks, are few. No condition.
-/
import Derived.Test.YtfimpohbpccjaaaWalkWords3
namespace Go.Proofs.Ytfimpohbpccjaaa
open Go.RowKit

theorem okB6_geo {x : ArrN} {ms : List MemD} {ds : List (Int × List Int)} {s : Int} (h : okB6 x ms ds s = true) : x.n ≤ 5 := by
  unfold okB6 arrB at h
  simp only [Bool.and_eq_true] at h
  exact (geoB_iff.1 h.1.1).2.1
theorem words6_le (x : ArrN) (ms : List MemD) (s : Int) (h : x.n ≤ 5) : (words6 x ms s).length ≤ 5 := by
  unfold words6
  split
  · rw [wordL_len]; omega
  · rw [List.length_set, wordL_len]; omega
  · simp
theorem wordsL6_le (x : ArrN) (ms : List MemD) (ds : List (Int × List Int)) (s : Int) : (wordsL6 x ms ds s).length ≤ 5 := by
  unfold wordsL6
  split
  · rename_i h
    have hx : x.n ≤ 5 := okB6_geo h
    exact words6_le _ _ _ hx
  · simp
theorem dataL6_le (x : ArrN) (ms : List MemD) (ds : List (Int × List Int)) (s : Int) : (dataL6 x ms ds s).length ≤ 5 := by
  unfold dataL6
  split
  · rename_i h
    have := okB6_geo h
    unfold data6
    split
    · rw [pickL_len]; show x.n.toNat - 1 ≤ 5; omega
    · simp
  · simp
theorem own_len6 {w : World} {lo hi l : Nat} {a : Option Addr} {c : Nat} {zs ps : List Int} {pl : Nat} (h : tIntS.Own w lo hi [.slice a l c] zs) (hp : zs = ps) (hl : ps.length = pl) : l = pl ∧ tIntS.Own w lo hi [.slice a pl c] ps := by
  subst hp
  have h2 := (ints_rd h.rd).2.1
  have : l = pl := by omega
  subst this
  exact ⟨rfl, h⟩

end Go.Proofs.Ytfimpohbpccjaaa
