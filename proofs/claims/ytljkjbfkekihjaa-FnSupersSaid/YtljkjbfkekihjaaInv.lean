/-
  Plain lemmas on a region that draws its order, by a condition that every operation keeps: it is shown operation by operation, not way by way. No condition; nothing of the program is named here.
-/
import Derived.Test.YtljkjbfkekihjaaOrder
namespace Go.Proofs.Ytljkjbfkekihjaa
open Go.RowKit

def cntF : List Bool → Nat
  | [] => 0
  | b :: r => (if b = true then 0 else 1) + cntF r
theorem cntF_set : ∀ (l : List Bool) (j : Nat), l[j]? = some false → cntF (l.set j true) + 1 = cntF l
  | [], j, h => by simp at h
  | b :: r, 0, h => by simp at h; subst h; simp [cntF]; omega
  | b :: r, j + 1, h => by
    have := cntF_set r j (by simpa using h)
    simp only [List.set_cons_succ, cntF]
    omega
theorem cntF_zero : ∀ (l : List Bool), cntF l = 0 → ∀ j : Nat, l[j]? ≠ some false
  | [], _, j => by simp
  | b :: r, h, 0 => by
    simp only [cntF] at h
    intro hc
    simp at hc
    subst hc
    simp at h
  | b :: r, h, j + 1 => by
    simp only [cntF] at h
    intro hc
    exact cntF_zero r (by omega) j (by simpa using hc)
theorem cntF_rep : ∀ n : Nat, cntF (List.replicate n false) = n
  | 0 => rfl
  | n + 1 => by simp only [List.replicate_succ, cntF, cntF_rep n]; simp; omega
theorem getD_false {l : Array Bool} {j : Nat} (h : l.getD j true = false) : l.toList[j]? = some false := by
  by_cases hj : j < l.size
  · simp [hj] at h
    simp [hj, h]
  · simp [Array.getElem?_eq_none (Nat.le_of_not_lt hj)] at h

section
variable {P : Program} {ops : Array Oper} {Q : Exit → Act → World → Prop} {I : Array Bool → Act → World → Prop}

theorem wpAny_inv (step : ∀ l a w, I l a w → ∀ j, j ∈ Region.ready .any ops l → wpOp P ops Q j (fun a' w' => I (l.setIfInBounds j true) a' w') a w)
    (fin : ∀ l a w, I l a w → Region.ready .any ops l = [] → Q .normal a w) : ∀ (n : Nat) (l : Array Bool) (a : Act) (w : World), I l a w → cntF l.toList ≤ n → wpAny P .any ops Q n l a w
  | 0, l, a, w, hI, hc => by
    have hr : Region.ready .any ops l = [] := by
      apply List.eq_nil_iff_forall_not_mem.2
      intro j hj
      exact cntF_zero _ (by omega) j (getD_false (mem_ready.1 hj).1)
    exact ⟨hr, fin l a w hI hr⟩
  | n + 1, l, a, w, hI, hc => ⟨fin l a w hI, fun j hj => wpOp_mono (fun a' w' h' => wpAny_inv step fin n _ a' w' h' (by
      have h1 := cntF_set _ j (getD_false (mem_ready.1 hj).1)
      have h2 : (l.setIfInBounds j true).toList = l.toList.set j true := by simp
      rw [h2]
      omega)) (step l a w hI j hj)⟩

/-- The beginning. -/
theorem region_inv (I : Array Bool → Act → World → Prop) {id : Nat} {a : Act} {w : World} (hm : P.follows .mixedOrders = true) (start : I (Array.replicate ops.size false) a w.drew)
    (step : ∀ l a w, I l a w → ∀ j, j ∈ Region.ready .any ops l → wpOp P ops Q j (fun a' w' => I (l.setIfInBounds j true) a' w') a w)
    (fin : ∀ l a w, I l a w → Region.ready .any ops l = [] → Q .normal a w) : (Code.region id ops true).wp P Q a w :=
  wp_region_any hm (wpAny_inv step fin _ _ _ _ start (by rw [Array.toList_replicate, cntF_rep]; exact Nat.le_refl _))

/-- What an operation waits for. -/
def depsOf (o : Oper) : List Nat := (o.after.toList.filter fun e => Region.binds .any e).map (·.on)
theorem ready_deps {l : Array Bool} {j : Nat} (h : j ∈ Region.ready .any ops l) : l.getD j true = false ∧ ∃ o, ops[j]? = some o ∧ ∀ d ∈ depsOf o, l.getD d false = true := by
  obtain ⟨h1, o, ho, h2⟩ := mem_ready.1 h
  refine ⟨h1, o, ho, fun d hd => ?_⟩
  unfold depsOf at hd
  obtain ⟨e, he, rfl⟩ := List.mem_map.1 hd
  obtain ⟨he1, he2⟩ := List.mem_filter.1 he
  exact h2 e (by simpa using he1) he2
theorem ready_lt {l : Array Bool} {j : Nat} (h : j ∈ Region.ready .any ops l) : j < ops.size := by
  obtain ⟨_, o, ho, _⟩ := mem_ready.1 h
  exact (Array.getElem?_eq_some_iff.1 ho).1
theorem done_of {l : Array Bool} (h : Region.ready .any ops l = []) {j : Nat} {o : Oper} {tl : List Oper} (ho : ops.toList.drop j = o :: tl) (hd : ∀ d ∈ depsOf o, l.getD d false = true) : l.getD j true = true := by
  cases hb : l.getD j true with
  | true => rfl
  | false =>
    have ho' : ops[j]? = some o := by
      have := congrArg List.head? ho
      rw [List.head?_drop] at this
      simpa using this
    have : j ∈ Region.ready .any ops l := mem_ready.2 ⟨hb, o, ho', fun e he hbnd => hd _ (List.mem_map.2 ⟨e, List.mem_filter.2 ⟨by simpa using he, hbnd⟩, rfl⟩)⟩
    rw [h] at this
    cases this
/-- One operation, written out. -/
theorem wpOp_one {i : Nat} {o : Oper} {tl : List Oper} {K : Act → World → Prop} {a : Act} {w : World} (ho : ops.toList.drop i = o :: tl)
    (h : ∀ K' : Act → World → Prop, Hid (∀ a w, K a w → K' a w) → if Region.wanted o (yielded ops a.tmps) = true then Oper.wp P o a w K' Q else K' (a.put o.dst undef) w) : wpOp P ops Q i K a w := by
  have ho' : ops[i]? = some o := by
    have := congrArg List.head? ho
    rw [List.head?_drop] at this
    simpa using this
  exact wpOp_step ho' h
end

end Go.Proofs.Ytljkjbfkekihjaa
