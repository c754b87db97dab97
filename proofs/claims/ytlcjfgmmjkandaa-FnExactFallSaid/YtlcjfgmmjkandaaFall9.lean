/-
  What Fall makes of disks: plain lemmas. No condition.
-/
import Derived.Test.YtlcjfgmmjkandaaWalkFall
import Derived.Test.YtlcjfgmmjkandaaWalkMems
namespace Go.Proofs.Ytlcjfgmmjkandaa
open Go.RowKit

/-- One disk that falls. -/
def fall1 (d : MemD) (k : Int) : MemD := (faSS d.1 d.2.1 d.2.2.2 k, faCS d.1 d.2.1 d.2.2.2, d.2.2.1, d.2.2.2)
/-- All of them, each by its number. -/
def fallL (ms : List MemD) (ks : List Int) : List MemD := ms.mapIdx fun i d => fall1 d (ks.getD i 0)
theorem fallL_length (ms : List MemD) (ks : List Int) : (fallL ms ks).length = ms.length := by unfold fallL; simp
theorem fallL_get {ms : List MemD} {ks : List Int} {j : Nat} {d : MemD} (h : ms[j]? = some d) : (fallL ms ks)[j]? = some (fall1 d (ks.getD j 0)) := by unfold fallL; simp [h]
theorem fallL_take {ms : List MemD} {ks : List Int} {j : Nat} {d : MemD} (h : ms[j]? = some d) : (fallL ms ks).take (j + 1) = (fallL ms ks).take j ++ [fall1 d (ks.getD j 0)] := by
  have h1 := fallL_get (ks := ks) h
  rw [List.take_add_one, h1]
  rfl

theorem sumL_at (a : Int) (c : Nat) : ∀ n : Nat, sumL ((List.range n).map fun (k : Nat) => if a = (k : Int) then c else 0) ≤ if a < (n : Int) then c else 0
  | 0 => by simp [sumL]
  | n + 1 => by
    have ih := sumL_at a c n
    rw [List.range_succ, List.map_append]
    have e : ∀ (l m : List Nat), sumL (l ++ m) = sumL l + sumL m := fun l m => by
      induction l with
      | nil => simp [sumL]
      | cons x l ih => simp only [sumL, List.cons_append, List.foldr_cons] at *; omega
    rw [e]
    have h1 : sumL (List.map (fun (k : Nat) => if a = (k : Int) then c else 0) [n]) = if a = (n : Int) then c else 0 := by simp [sumL]
    rw [h1]
    split at ih <;> split <;> split <;> omega
theorem sumL_two (f g h : Nat → Nat) (hh : ∀ k, f k ≤ g k + h k) : ∀ l : List Nat, sumL (l.map f) ≤ sumL (l.map g) + sumL (l.map h)
  | [] => by simp [sumL]
  | x :: l => by
    have ih := sumL_two f g h hh l
    have hx := hh x
    simp only [sumL, List.map_cons, List.foldr_cons] at *
    omega
/-- What the last of each number weigh together. -/
theorem lasts_wt (n : Nat) (ss : List (List Int)) (ks : List (Int × List Int)) : sumL ((List.range n).map fun (k : Nat) => ((lastW ks (k : Int)).getD (ss.getD k [])).length) ≤ sumL ((List.range n).map fun (k : Nat) => (ss.getD k []).length) + sumL (ks.map fun x => x.2.length) := by
  induction hm : ks.length generalizing ks with
  | zero =>
    have : ks = [] := List.eq_nil_of_length_eq_zero hm
    subst this
    simp [lastW, sumL]
  | succ m ih =>
    obtain ⟨l, x, rfl⟩ : ∃ l x, ks = l ++ [x] := ⟨ks.dropLast, ks.getLast (by intro e; rw [e] at hm; simp at hm), (List.dropLast_concat_getLast _).symm⟩
    have h1 := ih l (by simpa using hm)
    have h2 := sumL_two (fun (k : Nat) => ((lastW (l ++ [x]) (k : Int)).getD (ss.getD k [])).length) (fun (k : Nat) => ((lastW l (k : Int)).getD (ss.getD k [])).length) (fun (k : Nat) => if x.1 = (k : Int) then x.2.length else 0) (fun k => by
      rw [lastW_snoc]
      by_cases hk : x.1 = (k : Int)
      · rw [if_pos hk, if_pos hk]; simp
      · rw [if_neg hk, if_neg hk]; omega) (List.range n)
    have h3 := sumL_at x.1 x.2.length n
    have h4 : sumL ((l ++ [x]).map fun x => x.2.length) = sumL (l.map fun x => x.2.length) + x.2.length := by
      rw [List.map_append]
      have e : ∀ (l m : List Nat), sumL (l ++ m) = sumL l + sumL m := fun l m => by
        induction l with
        | nil => simp [sumL]
        | cons x l ih => simp only [sumL, List.cons_append, List.foldr_cons] at *; omega
      rw [e]
      simp [sumL]
    rw [h4]
    split at h3 <;> omega
theorem range_getD (ss : List (List Int)) : ((List.range ss.length).map fun (k : Nat) => (ss.getD k []).length) = ss.map List.length := by
  apply List.ext_getElem?
  intro i
  by_cases h : i < ss.length
  · simp [h]
  · simp [h]
theorem flushD_le (ss : List (List Int)) (ks : List (Int × List Int)) : wtIntSS (flushD ss ks) ≤ wtIntSS ss + sumL (ks.map fun x => x.2.length) := by
  have h := lasts_wt ss.length ss ks
  rw [range_getD] at h
  unfold wtIntSS
  rw [flushD_length]
  have e : (flushD ss ks).map List.length = (List.range ss.length).map fun (k : Nat) => ((lastW ks (k : Int)).getD (ss.getD k [])).length := by unfold flushD; simp
  rw [e]
  omega
theorem kept_le (k : Int) (cs : List (Int × List Int)) : ∀ j, j ≤ cs.length → sumL ((keptD k cs j).map fun x => x.2.length) ≤ sumL ((cs.take j).map fun x => x.2.length)
  | 0, _ => by simp [keptD_zero, sumL]
  | j + 1, h => by
    have ih := kept_le k cs j (by omega)
    have hx : cs[j]? = some (cs[j]'(by omega)) := List.getElem?_eq_getElem (by omega)
    have e : ∀ (l m : List Nat), sumL (l ++ m) = sumL l + sumL m := fun l m => by
      induction l with
      | nil => simp [sumL]
      | cons x l ih => simp only [sumL, List.cons_append, List.foldr_cons] at *; omega
    have h2 : sumL ((cs.take (j + 1)).map fun x => x.2.length) = sumL ((cs.take j).map fun x => x.2.length) + (cs[j]'(by omega)).2.length := by
      rw [List.take_add_one, hx, List.map_append, e]
      simp [sumL]
    rw [h2]
    cases hb : bitB k j
    · rw [keptD_not hb]; omega
    · rw [keptD_set hb hx, List.map_append, e]
      have : sumL (List.map (fun x => x.2.length) [cs[j]'(by omega)]) = (cs[j]'(by omega)).2.length := by simp [sumL]
      omega
theorem fall1_wt (d : MemD) (k : Int) : wtMem (fall1 d k) ≤ wtMem d := by
  obtain ⟨ss, cs, f, bs⟩ := d
  unfold fall1 faSS faCS
  dsimp only
  by_cases hM : memB ss cs bs = true
  · rw [if_pos hM, if_pos hM]
    have h1 := flushD_le ss (keptD (keepN k) cs (min cs.length 20))
    have h2 := kept_le (keepN k) cs (min cs.length 20) (Nat.min_le_left _ _)
    have h3 : sumL ((cs.take (min cs.length 20)).map fun x => x.2.length) ≤ sumL (cs.map fun x => x.2.length) := by rw [List.map_take]; exact sumL_le _
    have h4 : wtWrS [] = 0 := rfl
    unfold wtMem
    dsimp only
    rw [h4]
    unfold wtWrS
    omega
  · rw [if_neg hM, if_neg hM]
    exact Nat.le_refl _
theorem map_le {f g : MemD → Nat} : ∀ (l m : List MemD), l.length = m.length → (∀ (i : Nat) (x y : MemD), l[i]? = some x → m[i]? = some y → f x ≤ g y) → sumL (l.map f) ≤ sumL (m.map g)
  | [], [], _, _ => by simp [sumL]
  | x :: l, y :: m, hl, h => by
    have ih := map_le l m (by simpa using hl) (fun i x y hx hy => h (i + 1) x y (by simpa using hx) (by simpa using hy))
    have h0 := h 0 x y rfl rfl
    simp only [sumL, List.map_cons, List.foldr_cons] at *
    omega
theorem fallL_wt (ms : List MemD) (ks : List Int) : wtMemS (fallL ms ks) ≤ wtMemS ms := by
  unfold wtMemS
  rw [fallL_length]
  have := map_le (f := wtMem) (g := wtMem) (fallL ms ks) ms (fallL_length ms ks) (fun i x y hx hy => by
    rw [fallL_get hy] at hx
    cases hx
    exact fall1_wt _ _)
  omega

/-- Disks that a function hands back, in memory of their own. -/
def MemsOut (w w' : World) (e : Ending) (n : Nat) (L : List MemD) : Prop :=
  ∃ (b : Option Addr) (c : Nat), e = .returned (.slice b n c) ∧ (tMemS 108 73).Own w' w.heap.size w'.heap.size [.slice b n c] L ∧ Below w.heap.size w w'

end Go.Proofs.Ytlcjfgmmjkandaa
