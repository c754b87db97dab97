/-
  What the results of a disk's functions weigh. No condition.
-/
import Derived.Test.YtmkiljflkndmoaaWalkFallSpec
import Derived.Test.YtmkiljflkndmoaaWalkRead2
import Derived.Test.YtmkiljflkndmoaaWalkSpoilSpec
import Derived.Test.YtmkiljflkndmoaaWalkWriteSpec
import Derived.Test.YtmkiljflkndmoaaWalkMemNew
namespace Go.Proofs.Ytmkiljflkndmoaa
open Go.RowKit

theorem fa_wt {ss : List (List Int)} {cs : List (Int × List Int)} {f : Bool} {bs : List Int} {k : Int} (h : wtMem (ss, cs, f, bs) ≤ 1048576) : wtMem (faSS ss cs bs k, faCS ss cs bs, f, bs) ≤ 2097152 := by
  unfold faSS faCS
  by_cases hM : memB ss cs bs = true
  · rw [if_pos hM, if_pos hM]
    have h1 := flushD_wt (ks := keptD (keepN k) cs (min cs.length 20)) (mem_secs hM) (mem_small hM).1 (fun x hx => (mem_small hM).2 x (keptD_mem (Nat.min_le_left _ _) x hx))
    unfold wtMem wtWrS at *
    simp only [List.length_nil, List.map_nil] at *
    have h2 : sumL [] = 0 := rfl
    omega
  · rw [if_neg hM, if_neg hM]
    omega

theorem fl_wt {ss : List (List Int)} {cs : List (Int × List Int)} {f : Bool} {bs : List Int} (h : wtMem (ss, cs, f, bs) ≤ 1048576) : wtMem (flSS ss cs f bs, flCS ss cs f bs, f, bs) ≤ 2097152 := by
  unfold flSS flCS
  by_cases hc : (memB ss cs bs && !f) = true
  · rw [if_pos hc, if_pos hc]
    have hM : memB ss cs bs = true := by simp at hc; exact hc.1
    have h1 := flushD_wt (ks := cs) (mem_secs hM) (mem_small hM).1 (mem_small hM).2
    unfold wtMem wtWrS at *
    simp only [List.length_nil, List.map_nil] at *
    have h2 : sumL [] = 0 := rfl
    omega
  · rw [if_neg hc, if_neg hc]
    omega

theorem newSS_wt (n : Int) : wtMem (newSS n, ([] : List (Int × List Int)), false, ([] : List Int)) ≤ 2097152 := by
  have h0 : ∀ k : Nat, sumL (List.replicate k 0) = 0 := by
    intro k
    induction k with
    | zero => rfl
    | succ k ih => simpa [List.replicate_succ, sumL] using ih
  unfold wtMem wtIntSS wtWrS newSS
  by_cases h : 1 ≤ n ∧ n ≤ 20
  · rw [if_pos h]
    have h1 : sumL ((List.replicate n.toNat ([] : List Int)).map List.length) = 0 := by rw [List.map_replicate]; exact h0 _
    simp only [h1, List.length_replicate, List.map_nil, List.length_nil]
    have h2 : sumL [] = 0 := rfl
    omega
  · rw [if_neg h]
    simp [sumL]

theorem readD_le {ss : List (List Int)} {cs : List (Int × List Int)} {f : Bool} {bs : List Int} {n : Int} (hw : wtMem (ss, cs, f, bs) ≤ 1048576) : (readD ss cs f bs n).length ≤ 1048576 := by
  have hw0 : wtIntSS ss ≤ 1048576 := by unfold wtMem at hw; simp only at hw; omega
  have hw1 : wtWrS cs ≤ 1048576 := by unfold wtMem at hw; simp only at hw; omega
  unfold readD
  split
  · cases h : lastW cs n with
    | some zs => exact lastW_le hw1 h
    | none =>
      unfold secAt
      rw [Option.getD_none, List.getD_eq_getElem?_getD]
      cases h2 : ss[n.toNat]? with
      | none => simp
      | some x => exact Nat.le_trans (inner_le h2) hw0
  · simp

theorem sp_len {ss : List (List Int)} {cs : List (Int × List Int)} {bs : List Int} {n : Int} : (spBS ss cs bs n).length ≤ bs.length + 1 := by
  unfold spBS
  by_cases h : spOk ss cs bs n = true
  · rw [if_pos h]
    unfold insD
    rw [List.length_append, List.length_cons, List.length_take, List.length_drop]
    omega
  · rw [if_neg h]
    omega

theorem sp_wt {ss : List (List Int)} {cs : List (Int × List Int)} {f : Bool} {bs : List Int} {n : Int} (h : wtMem (ss, cs, f, bs) ≤ 1048576) : wtMem (ss, cs, f, spBS ss cs bs n) ≤ 2097152 := by
  have h1 := sp_len (ss := ss) (cs := cs) (bs := bs) (n := n)
  unfold wtMem at *
  simp only at *
  omega

theorem sumL_append : ∀ (l m : List Nat), sumL (l ++ m) = sumL l + sumL m
  | [], m => by simp [sumL]
  | x :: l, m => by
    have h := sumL_append l m
    have e1 : sumL (x :: (l ++ m)) = x + sumL (l ++ m) := by simp [sumL]
    have e2 : sumL (x :: l) = x + sumL l := by simp [sumL]
    rw [List.cons_append, e1, e2, h]
    omega

theorem wr_wt {ss : List (List Int)} {cs : List (Int × List Int)} {f : Bool} {bs : List Int} {n : Int} {sw : List Int} (h : wtMem (ss, cs, f, bs) ≤ 1048576) (h5 : sw.length ≤ 1048576 - 1) : wtMem (ss, wrCS ss cs f bs n sw, f, wrBS ss cs f bs n sw) ≤ 2097152 := by
  unfold wrCS wrBS
  by_cases hc : wrOk ss cs f bs n sw = true
  · rw [if_pos hc, if_pos hc]
    have h1 := filt_length bs n
    unfold wtMem wtWrS at *
    simp only [List.map_append, List.length_append, List.map_cons, List.map_nil, List.length_cons, List.length_nil] at *
    rw [sumL_append]
    have h2 : sumL [sw.length] = sw.length := by simp [sumL]
    omega
  · rw [if_neg hc, if_neg hc]
    omega

end Go.Proofs.Ytmkiljflkndmoaa
