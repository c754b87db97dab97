/-
  What CanLose answers of an array, in plain words. No condition.
-/
import Derived.Test.YtechckninoilhaaWalkArrOk3
import Derived.Test.YtechckninoilhaaLawSlotOf
namespace Go.Proofs.Ytechckninoilhaa
open Go.RowKit

def spoB (bs : List Int) : Bool := bs.any fun n => decide (6 ≤ n)
def othB (ms : List MemD) (m : Int) (j : Nat) : Bool := (List.range j).any fun (i : Nat) => decide ((i : Int) ≠ m) && ((ms[i]?).map fun d => spoB d.2.2.2).getD false
def canK (x : ArrN) (ms : List MemD) (ds : List (Int × List Int)) (m : Int) : Bool := arrB x ms ds && (inB m 0 ((ms.length : Int) - 1) && (!x.broken && (decide (x.lost = -1) || decide (x.lost = m))))
def can11 (x : ArrN) (ms : List MemD) (ds : List (Int × List Int)) (m : Int) : Bool := canK x ms ds m && !othB ms m ms.length
theorem can_no {x : ArrN} {ms : List MemD} {ds : List (Int × List Int)} {m : Int} (h : canK x ms ds m = false) : can11 x ms ds m = false := by unfold can11; rw [h]; rfl
theorem can_of {x : ArrN} {ms : List MemD} {ds : List (Int × List Int)} {m : Int} (h : canK x ms ds m = true) : can11 x ms ds m = !othB ms m ms.length := by unfold can11; rw [h]; rfl
theorem oth_succ (ms : List MemD) (m : Int) (j : Nat) : othB ms m (j + 1) = (othB ms m j || (decide ((j : Int) ≠ m) && ((ms[j]?).map fun d => spoB d.2.2.2).getD false)) := by
  unfold othB
  rw [List.range_succ, List.any_append]
  simp
theorem oth_same {ms : List MemD} {m : Int} {j : Nat} (h : (j : Int) = m) (h0 : othB ms m j = false) : othB ms m (j + 1) = false := by rw [oth_succ, h0]; simp [h]
theorem oth_other {ms : List MemD} {m : Int} {j : Nat} {d : MemD} (hd : ms[j]? = some d) (h : (j : Int) ≠ m → spoB d.2.2.2 = false) (h0 : othB ms m j = false) : othB ms m (j + 1) = false := by
  rw [oth_succ, h0, hd]
  dsimp only [Option.map_some, Option.getD_some]
  by_cases hm : (j : Int) = m
  · simp [hm]
  · rw [h hm]; simp
theorem oth_hit {ms : List MemD} {m : Int} {j : Nat} {d : MemD} (hd : ms[j]? = some d) (hm : (j : Int) ≠ m) (h : spoB d.2.2.2 = true) : othB ms m ms.length = true := by
  have hj := (List.getElem?_eq_some_iff.1 hd).1
  unfold othB
  rw [List.any_eq_true]
  refine ⟨j, by simpa using hj, ?_⟩
  rw [hd]
  dsimp only [Option.map_some, Option.getD_some]
  rw [h]
  simp [hm]
theorem spo_hit {bs : List Int} {k : Nat} (hk : k < bs.length) (h : dataN 0 ≤ bs.getD k 0) : spoB bs = true := by
  unfold spoB
  rw [List.any_eq_true]
  have e : bs.getD k 0 = bs[k] := by rw [List.getD_eq_getElem?_getD, List.getElem?_eq_getElem hk]; rfl
  rw [e] at h
  exact ⟨bs[k], List.getElem_mem hk, decide_eq_true (show (6 : Int) ≤ _ from h)⟩
theorem spo_step {bs : List Int} {k : Nat} (hk : k < bs.length) (h : ¬ dataN 0 ≤ bs.getD k 0) (h0 : spoB (bs.take k) = false) : spoB (bs.take (k + 1)) = false := by
  unfold spoB at h0 ⊢
  have e : bs.getD k 0 = bs[k] := by rw [List.getD_eq_getElem?_getD, List.getElem?_eq_getElem hk]; rfl
  rw [e] at h
  rw [List.take_succ_eq_append_getElem hk, List.any_append, h0]
  have h' : ¬ 6 ≤ bs[k] := h
  simp [h']

end Go.Proofs.Ytechckninoilhaa
