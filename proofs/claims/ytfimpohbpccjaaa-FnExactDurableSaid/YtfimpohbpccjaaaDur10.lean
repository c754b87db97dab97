/-
  What Durable answers, in plain words. No condition.
-/
import Derived.Test.YtfimpohbpccjaaaSmall6
namespace Go.Proofs.Ytfimpohbpccjaaa
open Go.RowKit

def durJ (x : ArrN) (ms : List MemD) (ds : List (Int × List Int)) (j : Nat) : List Int := ((List.range j).map fun (t : Nat) => dataL6 x ms ds (t : Int)).flatten
def durOk (x : ArrN) (ms : List MemD) (ds : List (Int × List Int)) (j : Nat) : Bool := (List.range j).all fun (t : Nat) => wordsOk6 x ms ds (t : Int)
def dur10 (x : ArrN) (ms : List MemD) (ds : List (Int × List Int)) : List Int := if arrB x ms ds = true ∧ durOk x ms ds x.s.toNat = true then durJ x ms ds x.s.toNat else []
theorem durJ_succ (x : ArrN) (ms : List MemD) (ds : List (Int × List Int)) (j : Nat) : durJ x ms ds (j + 1) = durJ x ms ds j ++ dataL6 x ms ds (j : Int) := by unfold durJ; rw [List.range_succ, List.map_append, List.flatten_append]; simp
theorem durOk_succ (x : ArrN) (ms : List MemD) (ds : List (Int × List Int)) (j : Nat) : durOk x ms ds (j + 1) = (durOk x ms ds j && wordsOk6 x ms ds (j : Int)) := by unfold durOk; rw [List.range_succ, List.all_append]; simp
theorem durOk_bad {x : ArrN} {ms : List MemD} {ds : List (Int × List Int)} {j k : Nat} (h : wordsOk6 x ms ds (j : Int) = false) (hk : j < k) : durOk x ms ds k = false := by
  unfold durOk
  rw [List.all_eq_false]
  exact ⟨j, by simpa using hk, by simp [h]⟩
theorem durJ_le (x : ArrN) (ms : List MemD) (ds : List (Int × List Int)) (j : Nat) : (durJ x ms ds j).length ≤ 5 * j := by
  induction j with
  | zero => exact Nat.le_refl _
  | succ j ih => rw [durJ_succ, List.length_append]; have := dataL6_le x ms ds (j : Int); omega
theorem dur_no {x : ArrN} {ms : List MemD} {ds : List (Int × List Int)} (h : arrB x ms ds = false) : dur10 x ms ds = [] := by unfold dur10; rw [if_neg (by simp [h])]
theorem dur_bad {x : ArrN} {ms : List MemD} {ds : List (Int × List Int)} (h : durOk x ms ds x.s.toNat = false) : dur10 x ms ds = [] := by unfold dur10; rw [if_neg (by simp [h])]
theorem dur_of {x : ArrN} {ms : List MemD} {ds : List (Int × List Int)} (ha : arrB x ms ds = true) (h : durOk x ms ds x.s.toNat = true) : dur10 x ms ds = durJ x ms ds x.s.toNat := by unfold dur10; rw [if_pos ⟨ha, h⟩]
theorem dur10_le (x : ArrN) (ms : List MemD) (ds : List (Int × List Int)) : (dur10 x ms ds).length ≤ 40 := by
  unfold dur10
  by_cases h : arrB x ms ds = true ∧ durOk x ms ds x.s.toNat = true
  · rw [if_pos h]
    have hg : geoB x.n x.s = true := by have ha := h.1; unfold arrB at ha; simp only [Bool.and_eq_true] at ha; exact ha.1
    obtain ⟨g1, g2, g3, g4⟩ := geoB_iff.1 hg
    have := durJ_le x ms ds x.s.toNat
    omega
  · rw [if_neg h]; exact Nat.zero_le _
theorem words_arr {x : ArrN} {ms : List MemD} {ds : List (Int × List Int)} {s : Int} (h : wordsOk6 x ms ds s = true) : arrB x ms ds = true := by
  unfold wordsOk6 okB6 at h
  simp only [Bool.and_eq_true] at h
  exact h.1.1
theorem own_some10 {w : World} {lo hi l c : Nat} {a : Option Addr} {zs : List Int} (h : tIntS.Own w lo hi [.slice a l c] zs) (hn : 0 < zs.length) : ∃ ad, a = some ad ∧ zs.length = l ∧ Reads .i64 w (some ad) zs := by
  have hd := h.rd
  obtain ⟨hr, hl, _, _⟩ := ints_rd hd
  match a, hr, hd with
  | none, _, hd => obtain ⟨_, _, h0⟩ := row_nil hd; rw [h0] at hn; exact absurd hn (by simp)
  | some ad, hr, _ => exact ⟨ad, rfl, hl, hr⟩
theorem data_pos {x : ArrN} {ms : List MemD} {ds : List (Int × List Int)} {s : Int} (h : wordsOk6 x ms ds s = true) : 0 < (dataL6 x ms ds s).length := by
  have ha := words_arr h
  have hg : geoB x.n x.s = true := by unfold arrB at ha; simp only [Bool.and_eq_true] at ha; exact ha.1
  obtain ⟨g1, g2, _⟩ := geoB_iff.1 hg
  unfold wordsOk6 at h
  simp only [Bool.and_eq_true] at h
  unfold dataL6 data6
  rw [if_pos h.1, if_pos h.2, pickL_len]
  show 0 < x.n.toNat - 1
  omega

end Go.Proofs.Ytfimpohbpccjaaa
