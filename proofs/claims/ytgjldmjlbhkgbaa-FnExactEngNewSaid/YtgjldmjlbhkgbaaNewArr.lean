/-
  What a new array is: each disk with its Super and a word 0 in each stripe's sector. Plain lemmas, and what writing and flushing makes of a new disk. No condition.
-/
import Derived.Test.YtgjldmjlbhkgbaaWalkWriteSuper
import Derived.Test.YtgjldmjlbhkgbaaWalkFlush
import Derived.Test.YtgjldmjlbhkgbaaWalkMemNew
import Derived.Test.YtgjldmjlbhkgbaaWalkMarkMems
import Derived.Test.YtgjldmjlbhkgbaaWalkArr
import Derived.Test.YtgjldmjlbhkgbaaLawSlotOf
namespace Go.Proofs.Ytgjldmjlbhkgbaa
open Go.RowKit

def newSup (id n s role : Int) : Sup := ⟨id, 0, role, n, s, 0, -1, 0⟩
def newCS (P : List Int) (j : Nat) : List (Int × List Int) := (0, P) :: (List.range j).map fun (i : Nat) => ((i : Int) + 6, [0])
/-- The sectors of a new disk, the first j of its k stripes' sectors written. -/
def newPD (P : List Int) (k j : Nat) : List (List Int) := P :: (List.replicate 5 [] ++ (List.replicate j [0] ++ List.replicate (k - j) []))
def newMD (id n s : Int) (i : Nat) : MemD := (newPD (putD (newSup id n s (i : Int))) s.toNat s.toNat, [], false, [])
def newMS (id n s : Int) (j : Nat) : List MemD := (List.range j).map fun (i : Nat) => newMD id n s i
def newB (id n s : Int) : Bool := geoB n s && inB id 1 60000
def newX (id n s : Int) : ArrN := if newB id n s = true then ⟨id, n, s, -1, 0, 0, 0, 0, -1, false, false⟩ else ⟨0, 0, 0, 0, 0, 0, 0, 0, 0, false, false⟩
def newAM (id n s : Int) : List MemD := if newB id n s = true then newMS id n s n.toNat else []

theorem newMS_succ (id n s : Int) (j : Nat) : newMS id n s (j + 1) = newMS id n s j ++ [newMD id n s j] := by unfold newMS; rw [List.range_succ, List.map_append]; rfl
theorem newMS_len (id n s : Int) (j : Nat) : (newMS id n s j).length = j := by unfold newMS; simp
theorem newCS_succ (P : List Int) (j : Nat) : newCS P (j + 1) = newCS P j ++ [((j : Int) + 6, [0])] := by unfold newCS; rw [List.range_succ, List.map_append]; rfl
theorem newCS_len (P : List Int) (j : Nat) : (newCS P j).length = j + 1 := by unfold newCS; simp
theorem newPD_len (P : List Int) (k j : Nat) (h : j ≤ k) : (newPD P k j).length = 6 + k := by unfold newPD; simp; omega
theorem newSup_ok {id n s role : Int} (hg : geoB n s = true) (hi : inB id 1 60000 = true) (h0 : 0 ≤ role) (h1 : role < n) : supB (newSup id n s role) = true := by
  obtain ⟨g1, g2, g3, g4⟩ := geoB_iff.1 hg
  obtain ⟨i1, i2⟩ := inB_iff.1 hi
  rw [supB_iff]
  unfold newSup
  dsimp only
  omega
theorem put_sec {x : Sup} (h : supB x = true) : secB (putD x) = true := by
  obtain ⟨⟨g1, g2, g3, g4⟩, hl, ⟨r1, r2⟩, ⟨i1, i2⟩, ⟨e1, e2⟩, t1, t2⟩ := supB_iff.1 h
  unfold putD
  rw [if_pos h]
  unfold secB allW isW
  simp
  try omega
theorem sec_nil : secB [] = true := rfl
theorem sec_zero : secB [0] = true := by decide
theorem newSS_rep {k : Nat} (hk : k ≤ 8) : newSS (6 + (k : Int)) = List.replicate (6 + k) [] := by
  unfold newSS
  rw [if_pos (by omega), show (6 + (k : Int)).toNat = 6 + k from (by omega)]
theorem new_memB {P : List Int} {k j : Nat} {cs : List (Int × List Int)} (hk : k ≤ 8) (hj : cs.length ≤ 60) (hc : ∀ x ∈ cs, 0 ≤ x.1 ∧ x.1 < 6 + (k : Int) ∧ secB x.2 = true) (_ : secB P = true ∧ j ≤ k) : memB (newSS (6 + (k : Int))) cs [] = true := by
  rw [newSS_rep hk]
  unfold memB
  simp only [Bool.and_eq_true, List.all_eq_true, List.length_replicate, decide_eq_true_eq]
  refine ⟨fun x hx => ?_, fun x hx => ?_, rfl, inB_iff.2 (by omega), hj⟩
  · rw [(List.mem_replicate.1 hx).2]
    exact sec_nil
  · obtain ⟨h1, h2, h3⟩ := hc x hx
    unfold wrB
    rw [h3, Bool.and_true]
    exact inB_iff.2 (by omega)
theorem newCS_mem {P : List Int} {k j : Nat} (hP : secB P = true) (hj : j ≤ k) : ∀ x ∈ newCS P j, 0 ≤ x.1 ∧ x.1 < 6 + (k : Int) ∧ secB x.2 = true := by
  intro x hx
  unfold newCS at hx
  rcases List.mem_cons.1 hx with rfl | hx
  · exact ⟨Int.le_refl _, by dsimp only; omega, hP⟩
  · obtain ⟨i, hi, rfl⟩ := List.mem_map.1 hx
    have := List.mem_range.1 hi
    exact ⟨by dsimp only; omega, by dsimp only; omega, sec_zero⟩
theorem new_super {k : Nat} {x : Sup} (hk : k ≤ 8) (hx : supB x = true) (hg : x.gen = 0) : wsCS (newSS (6 + (k : Int))) [] false [] x = newCS (putD x) 0 ∧ wsBS (newSS (6 + (k : Int))) [] false [] x = [] := by
  have hl : ((newSS (6 + (k : Int))).length : Int) = 6 + k := by rw [newSS_rep hk]; simp
  have hok : wrOk (newSS (6 + (k : Int))) [] false [] (x.gen % 2) (putD x) = true := by
    unfold wrOk
    rw [new_memB (P := putD x) (j := 0) hk (by simp) (by simp) ⟨put_sec hx, Nat.zero_le _⟩, put_sec hx, hl, hg]
    simp
    exact inB_iff.2 (by omega)
  unfold wsCS wsBS
  rw [if_pos hx, if_pos hx]
  unfold wrCS wrBS
  rw [if_pos hok, if_pos hok, hg]
  exact ⟨rfl, rfl⟩
theorem new_write {P : List Int} {k j : Nat} (hP : secB P = true) (hk : k ≤ 8) (hj : j < k) : wrCS (newSS (6 + (k : Int))) (newCS P j) false [] (dataN (j : Int)) [0] = newCS P (j + 1) ∧ wrBS (newSS (6 + (k : Int))) (newCS P j) false [] (dataN (j : Int)) [0] = [] := by
  have hl : ((newSS (6 + (k : Int))).length : Int) = 6 + k := by rw [newSS_rep hk]; simp
  have hd : dataN (j : Int) = (j : Int) + 6 := by unfold dataN; rw [if_pos (by omega)]
  have hok : wrOk (newSS (6 + (k : Int))) (newCS P j) false [] (dataN (j : Int)) [0] = true := by
    unfold wrOk
    rw [new_memB (P := P) (j := j) hk (by rw [newCS_len]; omega) (newCS_mem hP (Nat.le_of_lt hj)) ⟨hP, Nat.le_of_lt hj⟩, sec_zero, hl, hd, newCS_len]
    simp
    exact ⟨inB_iff.2 (by omega), by omega⟩
  unfold wrCS wrBS
  rw [if_pos hok, if_pos hok, hd, newCS_succ]
  exact ⟨rfl, rfl⟩
theorem new_last (P : List Int) (q : Nat) : ∀ j : Nat, lastW (newCS P j) (q : Int) = if q = 0 then some P else if 6 ≤ q ∧ q < 6 + j then some [0] else none
  | 0 => by
    unfold newCS lastW
    simp
    by_cases h : q = 0
    · simp [h]
    · rw [if_neg (by omega), if_neg h, if_neg (by omega)]
  | j + 1 => by
    rw [newCS_succ, lastW_snoc, new_last P q j]
    dsimp only
    by_cases h : q = j + 6
    · rw [if_pos (by omega), if_neg (by omega), if_pos (by omega)]
    · rw [if_neg (by omega)]
      by_cases h0 : q = 0
      · rw [if_pos h0, if_pos h0]
      · rw [if_neg h0, if_neg h0]
        by_cases h1 : 6 ≤ q ∧ q < 6 + j
        · rw [if_pos h1, if_pos (by omega)]
        · rw [if_neg h1, if_neg (by omega)]
theorem newPD_get {P : List Int} {k j q : Nat} (hj : j ≤ k) (hq : q < 6 + k) : (newPD P k j)[q]? = some (if q = 0 then P else if 6 ≤ q ∧ q < 6 + j then [0] else []) := by
  unfold newPD
  match q, hq with
  | 0, _ => rfl
  | q + 1, hq =>
    rw [List.getElem?_cons_succ, if_neg (by omega)]
    by_cases h5 : q < 5
    · rw [List.getElem?_append_left (by simpa using h5), List.getElem?_replicate_of_lt h5, if_neg (by omega)]
    · rw [List.getElem?_append_right (by simp; omega), List.length_replicate]
      by_cases h1 : q - 5 < j
      · rw [List.getElem?_append_left (by simpa using h1), List.getElem?_replicate_of_lt h1, if_pos (by omega)]
      · rw [List.getElem?_append_right (by simp; omega), List.length_replicate, List.getElem?_replicate_of_lt (by omega), if_neg (by omega)]
theorem new_flush {P : List Int} {k : Nat} (hP : secB P = true) (hk : k ≤ 8) : flSS (newSS (6 + (k : Int))) (newCS P k) false [] = newPD P k k ∧ flCS (newSS (6 + (k : Int))) (newCS P k) false [] = [] := by
  have hm : memB (newSS (6 + (k : Int))) (newCS P k) [] = true := new_memB (P := P) (j := k) hk (by rw [newCS_len]; omega) (newCS_mem hP (Nat.le_refl _)) ⟨hP, Nat.le_refl _⟩
  have hf : (memB (newSS (6 + (k : Int))) (newCS P k) [] && !false) = true := by rw [hm]; rfl
  constructor
  · unfold flSS
    rw [if_pos hf]
    have hl : (newSS (6 + (k : Int))).length = 6 + k := by rw [newSS_rep hk]; simp
    refine list_ext_lt (n := 6 + k) (by rw [flushD_length, hl]) (newPD_len _ _ _ (Nat.le_refl _)) (fun q hq => ?_)
    rw [flushD_get (by omega), newPD_get (Nat.le_refl _) hq, new_last]
    have hg : (newSS (6 + (k : Int))).getD q [] = [] := by
      rw [newSS_rep hk, List.getD_eq_getElem?_getD, List.getElem?_replicate_of_lt hq]
      rfl
    rw [hg]
    by_cases h0 : q = 0
    · rw [if_pos h0, if_pos h0]; rfl
    · rw [if_neg h0, if_neg h0]
      by_cases h1 : 6 ≤ q ∧ q < 6 + k
      · rw [if_pos h1, if_pos h1]; rfl
      · rw [if_neg h1, if_neg h1]; rfl
  · unfold flCS
    rw [if_pos hf]
theorem newPD_zero {P : List Int} {k : Nat} (hk : k ≤ 8) : (newSS (6 + (k : Int))).set 0 P = newPD P k 0 := by
  rw [newSS_rep hk, show 6 + k = (5 + k) + 1 by omega, List.replicate_succ, List.set_cons_zero]
  unfold newPD
  rw [List.replicate_zero, List.nil_append, Nat.sub_zero, List.replicate_append_replicate]
theorem newPD_set {P : List Int} {k j : Nat} (hj : j < k) : (newPD P k j).set (6 + j) [0] = newPD P k (j + 1) := by
  refine list_ext_lt (n := 6 + k) (by rw [List.length_set]; exact newPD_len _ _ _ (Nat.le_of_lt hj)) (newPD_len _ _ _ hj) (fun q hq => ?_)
  rw [newPD_get hj hq]
  by_cases h : q = 6 + j
  · subst h
    rw [List.getElem?_set_self (by rw [newPD_len _ _ _ (Nat.le_of_lt hj)]; omega), if_neg (by omega), if_pos (by omega)]
  · rw [List.getElem?_set_ne (fun e => h e.symm), newPD_get (Nat.le_of_lt hj) hq]
    by_cases h0 : q = 0
    · rw [if_pos h0, if_pos h0]
    · rw [if_neg h0, if_neg h0]
      by_cases h1 : 6 ≤ q ∧ q < 6 + j
      · rw [if_pos h1, if_pos (by omega)]
      · rw [if_neg h1, if_neg (by omega)]
/-- A disk that is right weighs little. -/
theorem sum_sec : ∀ (l : List (List Int)), (∀ x ∈ l, secB x = true) → sumL (l.map List.length) ≤ 12 * l.length
  | [], _ => Nat.le_refl _
  | x :: l, h => by
    have h1 := sum_sec l (fun y hy => h y (List.mem_cons_of_mem _ hy))
    have h2 := h x List.mem_cons_self
    unfold secB at h2
    simp only [Bool.and_eq_true, decide_eq_true_eq] at h2
    have h3 : sumL ((x :: l).map List.length) = x.length + sumL (l.map List.length) := rfl
    rw [h3, List.length_cons]
    omega
theorem sum_secW : ∀ (l : List (Int × List Int)), (∀ x ∈ l, secB x.2 = true) → sumL (l.map fun x => x.2.length) ≤ 12 * l.length
  | [], _ => Nat.le_refl _
  | x :: l, h => by
    have h1 := sum_secW l (fun y hy => h y (List.mem_cons_of_mem _ hy))
    have h2 := h x List.mem_cons_self
    unfold secB at h2
    simp only [Bool.and_eq_true, decide_eq_true_eq] at h2
    have h3 : sumL ((x :: l).map fun x => x.2.length) = x.2.length + sumL (l.map fun x => x.2.length) := rfl
    rw [h3, List.length_cons]
    omega
theorem new_wt {P : List Int} {k j : Nat} (hP : secB P = true) (hk : k ≤ 8) (hj : j ≤ k) : wtMem (newSS (6 + (k : Int)), newCS P j, false, []) ≤ 2097152 := by
  have h1 := sum_sec (newSS (6 + (k : Int))) (fun x hx => by rw [newSS_rep hk] at hx; rw [(List.mem_replicate.1 hx).2]; exact sec_nil)
  have h2 := sum_secW (newCS P j) (fun x hx => (newCS_mem hP hj x hx).2.2)
  have h3 := newCS_len P j
  have h4 : (newSS (6 + (k : Int))).length = 6 + k := by rw [newSS_rep hk]; simp
  unfold wtMem wtIntSS wtWrS
  dsimp only
  rw [List.length_nil]
  omega
theorem newMD_wt {id n s : Int} {i : Nat} (hg : geoB n s = true) (hi : inB id 1 60000 = true) (h : (i : Int) < n) : wtMem (newMD id n s i) ≤ 1000 := by
  obtain ⟨g1, g2, g3, g4⟩ := geoB_iff.1 hg
  have hP := put_sec (newSup_ok hg hi (Int.natCast_nonneg i) h)
  have h1 := sum_sec (newPD (putD (newSup id n s (i : Int))) s.toNat s.toNat) (fun x hx => by
    unfold newPD at hx
    rcases List.mem_cons.1 hx with rfl | hx
    · exact hP
    · rcases List.mem_append.1 hx with hx | hx
      · rw [(List.mem_replicate.1 hx).2]; exact sec_nil
      · rcases List.mem_append.1 hx with hx | hx
        · rw [(List.mem_replicate.1 hx).2]; exact sec_zero
        · rw [(List.mem_replicate.1 hx).2]; exact sec_nil)
  have h2 := newPD_len (putD (newSup id n s (i : Int))) s.toNat s.toNat (Nat.le_refl _)
  unfold wtMem wtIntSS wtWrS newMD
  dsimp only
  rw [List.length_nil, List.length_nil, List.map_nil, show sumL [] = 0 from rfl]
  omega
theorem sum_le {f : MemD → Nat} {B : Nat} : ∀ (l : List MemD), (∀ x ∈ l, f x ≤ B) → sumL (l.map f) ≤ B * l.length
  | [], _ => Nat.le_refl _
  | x :: l, h => by
    have h1 := sum_le l (fun y hy => h y (List.mem_cons_of_mem _ hy))
    have h2 := h x List.mem_cons_self
    have h3 : sumL ((x :: l).map f) = f x + sumL (l.map f) := rfl
    rw [h3, List.length_cons, Nat.mul_succ]
    omega
theorem newAM_wt (id n s : Int) : wtArr (newAM id n s) [] ≤ 2097152 := by
  unfold newAM
  by_cases h : newB id n s = true
  · rw [if_pos h]
    unfold newB at h
    rw [Bool.and_eq_true] at h
    obtain ⟨g1, g2, g3, g4⟩ := geoB_iff.1 h.1
    have h1 := sum_le (f := wtMem) (B := 1000) (newMS id n s n.toNat) (fun x hx => by
      unfold newMS at hx
      obtain ⟨i, hi, rfl⟩ := List.mem_map.1 hx
      have := List.mem_range.1 hi
      exact newMD_wt h.1 h.2 (by omega))
    have h2 := newMS_len id n s n.toNat
    unfold wtArr wtMemS wtWrS
    rw [List.map_nil, show sumL [] = 0 from rfl, List.length_nil]
    omega
  · rw [if_neg h]
    decide

end Go.Proofs.Ytgjldmjlbhkgbaa
