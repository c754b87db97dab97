/-
  What disks know of an array: plain lemmas. No condition.
-/
import Derived.Test.YtlcjfgmmjkandaaWalkBest
import Derived.Test.YtlcjfgmmjkandaaWalkMems
namespace Go.Proofs.Ytlcjfgmmjkandaa
open Go.RowKit

/-- What a disk knows of the array. -/
def best1 (d : MemD) (id : Int) : Sup × Bool := bestSt d.1 d.2.1 d.2.2.1 d.2.2.2 id 2
/-- .. and it stands in its place. -/
def hereB (d : MemD) (id : Int) (i : Int) : Bool := (best1 d id).2 && decide ((best1 d id).1.role = i)
theorem hereB_some {d : MemD} {id i : Int} {y : Sup} {fb : Bool} (h : best1 d id = (y, fb)) : hereB d id i = (fb && decide (y.role = i)) := by unfold hereB; rw [h]
theorem best_failed {ss : List (List Int)} {cs : List (Int × List Int)} {bs : List Int} {id : Int} : ∀ j, bestSt ss cs true bs id j = (supZ, false)
  | 0 => rfl
  | j + 1 => by
    have e : bestSt ss cs true bs id (j + 1) = if better (atB ss cs true bs id j) (atS ss cs true bs id j) (bestSt ss cs true bs id j).1 (bestSt ss cs true bs id j).2 = true then (atS ss cs true bs id j, true) else bestSt ss cs true bs id j := rfl
    have h : atB ss cs true bs id j = false := by unfold atB atOk readOk; simp
    rw [e, h]
    unfold better
    simp [best_failed j]
theorem best_id {ss : List (List Int)} {cs : List (Int × List Int)} {f : Bool} {bs : List Int} {id : Int} : ∀ j, (bestSt ss cs f bs id j).2 = true → (bestSt ss cs f bs id j).1.id = id
  | 0 => fun h => by cases h
  | j + 1 => by
    have e : bestSt ss cs f bs id (j + 1) = if better (atB ss cs f bs id j) (atS ss cs f bs id j) (bestSt ss cs f bs id j).1 (bestSt ss cs f bs id j).2 = true then (atS ss cs f bs id j, true) else bestSt ss cs f bs id j := rfl
    rw [e]
    by_cases hb : better (atB ss cs f bs id j) (atS ss cs f bs id j) (bestSt ss cs f bs id j).1 (bestSt ss cs f bs id j).2 = true
    · rw [if_pos hb]
      intro _
      have h1 : atB ss cs f bs id j = true := by unfold better at hb; simp at hb; exact hb.1
      have h2 := h1
      unfold atB at h1
      unfold atS atD
      rw [if_pos h1]
      unfold atOk at h1
      simp only [Bool.and_eq_true, decide_eq_true_eq] at h1
      exact h1.2.2.1
    · rw [if_neg hb]
      exact best_id j
/-- The newest of the first j disks. -/
def newSt (ms : List MemD) (id : Int) : Nat → Sup × Bool
  | 0 => (supZ, false)
  | j + 1 => match ms[j]? with
    | none => newSt ms id j
    | some d => if better (hereB d id (j : Int)) (best1 d id).1 (newSt ms id j).1 (newSt ms id j).2 = true then ((best1 d id).1, true) else newSt ms id j
theorem new_up {ms : List MemD} {id : Int} {j : Nat} {d : MemD} {x y : Sup} {fb : Bool} (hd : ms[j]? = some d) (h : newSt ms id j = (y, fb)) (hx : hereB d id (j : Int) = true → x = (best1 d id).1) (hb : better (hereB d id (j : Int)) x y fb = true) : newSt ms id (j + 1) = (x, true) := by
  have h1 : hereB d id (j : Int) = true := by unfold better at hb; simp at hb; exact hb.1
  have e : newSt ms id (j + 1) = if better (hereB d id (j : Int)) (best1 d id).1 (newSt ms id j).1 (newSt ms id j).2 = true then ((best1 d id).1, true) else newSt ms id j := by rw [newSt, hd]
  rw [e, h, ← hx h1]
  exact if_pos hb
theorem new_same {ms : List MemD} {id : Int} {j : Nat} {d : MemD} {x y : Sup} {fb : Bool} (hd : ms[j]? = some d) (h : newSt ms id j = (y, fb)) (hx : hereB d id (j : Int) = true → x = (best1 d id).1) (hb : better (hereB d id (j : Int)) x y fb = false) : newSt ms id (j + 1) = (y, fb) := by
  have e : newSt ms id (j + 1) = if better (hereB d id (j : Int)) (best1 d id).1 (newSt ms id j).1 (newSt ms id j).2 = true then ((best1 d id).1, true) else newSt ms id j := by rw [newSt, hd]
  rw [e, h]
  refine if_neg ?_
  cases h1 : hereB d id (j : Int)
  · unfold better; simp
  · rw [h1, hx h1] at hb
    simp [hb]
theorem new_id {ms : List MemD} {id : Int} : ∀ j, (newSt ms id j).2 = true → (newSt ms id j).1.id = id
  | 0 => fun h => by cases h
  | j + 1 => by
    cases hd : ms[j]? with
    | none => rw [newSt, hd]; exact new_id j
    | some d =>
      have e : newSt ms id (j + 1) = if better (hereB d id (j : Int)) (best1 d id).1 (newSt ms id j).1 (newSt ms id j).2 = true then ((best1 d id).1, true) else newSt ms id j := by rw [newSt, hd]
      rw [e]
      by_cases hb : better (hereB d id (j : Int)) (best1 d id).1 (newSt ms id j).1 (newSt ms id j).2 = true
      · rw [if_pos hb]
        intro _
        have h1 : hereB d id (j : Int) = true := by unfold better at hb; simp at hb; exact hb.1
        unfold hereB at h1
        simp only [Bool.and_eq_true] at h1
        exact best_id 2 h1.1
      · rw [if_neg hb]
        exact new_id j
/-- What superHere hands back. -/
def HereOut (w w' : World) (e : Ending) (d : MemD) (id i : Int) : Prop := ∃ t : Sup, e = .returned (.tuple #[.agg #[.int .i64 t.id, .int .i64 t.gen, .int .i64 t.role, .int .i64 t.n, .int .i64 t.s, .int .i64 t.tail, .int .i64 t.lost, .int .i64 t.built], .bool (hereB d id i)]) ∧ (hereB d id i = true → t = (best1 d id).1) ∧ Below w.heap.size w w'

end Go.Proofs.Ytlcjfgmmjkandaa
