/-
  Plain lemmas on a region that draws its order and whose store may come up ahead of an operation that reads nothing: a condition on the world is held behind every operation as long as the store hasn't come up. No condition; nothing of the program is named here.
-/
import Derived.Test.YtbkkjfgjlapadaaGreatOrder
import Derived.OrdersHeld
import Derived.RegionTactic
namespace Go.Proofs.YtbkkjfgjlapadaaGreat
open Go.RowKit

/-- Whatever comes up next from here on; behind each operation but number k this holds of the world, as long as k hasn't come up. -/
def Late (P : Program) (ops : Array Oper) (Q : Exit → Act → World → Prop) (S : World → Prop) (k : Nat) : Nat → Array Bool → Act → World → Prop
  | 0, l, a, w => Region.ready .any ops l = [] ∧ Q .normal a w
  | n + 1, l, a, w => (Region.ready .any ops l = [] → Q .normal a w) ∧ ∀ j ∈ Region.ready .any ops l, wpOp P ops Q j (fun a' w' => (j ≠ k → l.getD k true = false → S w') ∧ Late P ops Q S k n (l.setIfInBounds j true) a' w') a w

section
variable {P : Program} {ops : Array Oper} {Q : Exit → Act → World → Prop} {S : World → Prop} {k : Nat}

theorem Late.any : ∀ (n : Nat) (l : Array Bool) (a : Act) (w : World), Late P ops Q S k n l a w → wpAny P .any ops Q n l a w
  | 0, _, _, _, h => h
  | n + 1, _, _, _, h => ⟨h.1, fun j hj => wpOp_mono (fun a' w' h' => Late.any n _ a' w' h'.2) (h.2 j hj)⟩

/-- The beginning. -/
theorem Late.start {id : Nat} {a : Act} {w : World} (hm : P.follows .mixedOrders = true) (h : Late P ops Q S k ops.size (Array.replicate ops.size false) a w.drew) : (Code.region id ops true).wp P Q a w :=
  wp_region_any hm (Late.any _ _ _ _ h)

theorem Late.first {i : Nat} {oi ok : Oper} {v : Value} (hi : ops[i]? = some oi) (hk : ops[k]? = some ok) (hki : ∃ e ∈ ok.after, Region.binds .any e = true ∧ e.on = i)
    (hsel : ∀ (j : Nat) (o : Oper) cs b, ops[j]? = some o → o.op ≠ .select cs b) (hQ : ∀ c a w, Q (.panic c) (a.put oi.dst v) w → Q (.panic c) a w) (n : Nat) :
    ∀ (l : Array Bool) (a : Act) (w : World),
      (∀ j oj, ops[j]? = some oj → j ≠ i → l.getD j true = false → (∀ e ∈ oj.after, Region.binds .any e = true → e.on ≠ i) → oi.apart ops oj = true) →
      l.getD k true = false → i ∈ Region.ready .any ops l → YieldsIf P ops S oi v a → S w → Late P ops Q S k n (l.setIfInBounds i true) (a.put oi.dst v) w → Late P ops Q S k (n + 1) l a w := by
  induction n with
  | zero =>
    intro l a w _ hkl hr hy hS H
    constructor
    · intro h
      rw [h] at hr
      simp at hr
    · intro j hj
      by_cases hji : j = i
      · rw [hji]
        exact hy.wpOp hi hS ⟨fun _ _ => hS, H⟩
      · have h2 := ready_mono (i := i) hj hji
        rw [H.1] at h2
        simp at h2
  | succ n ih =>
    intro l a w hfree hkl hr hy hS H
    constructor
    · intro h
      rw [h] at hr
      simp at hr
    · intro j hj
      by_cases hji : j = i
      · rw [hji]
        exact hy.wpOp hi hS ⟨fun _ _ => hS, H⟩
      · obtain ⟨hju, oj, hoj, hall⟩ := mem_ready.1 hj
        have hiu := (mem_ready.1 hr).1
        have hno : ∀ e ∈ oj.after, Region.binds .any e = true → e.on ≠ i := fun e he hb hon => unlisted hiu (hon ▸ hall e he hb)
        have hjk : j ≠ k := by
          intro hjk
          rw [hjk, hk] at hoj
          obtain ⟨e, he, hb, hon⟩ := hki
          cases hoj
          exact hno e he hb hon
        have h1 := H.2 j (ready_mono hj hji)
        have h2 := wpOp_putIf hoj (hfree j oj hoj hji hju hno) (fun cs b => hsel i oi cs b hi) (fun cs b => hsel j oj cs b hoj) hQ hy h1
        refine wpOp_mono ?_ h2
        intro a' w' h3
        have hik : i ≠ k := by
          intro hik
          obtain ⟨_, ok', hok', hall'⟩ := mem_ready.1 hr
          rw [hik, hk] at hok'
          obtain ⟨e, he, hb, hon⟩ := hki
          cases hok'
          exact unlisted hiu (hon ▸ hall' e he hb)
        have hS' := h3.2.1 hjk (by rw [getD_set_ne true hik]; exact hkl)
        refine ⟨fun _ _ => hS', ih _ a' w' ?_ (by rw [getD_set_ne true hjk]; exact hkl) (ready_mono hr (Ne.symm hji)) h3.1 hS' ?_⟩
        · intro m om hm hmi hun hnm
          refine hfree m om hm hmi ?_ hnm
          by_cases hjm : j = m
          · rw [← hjm]
            exact hju
          · rw [getD_set_ne true hjm] at hun
            exact hun
        · rw [Array.setIfInBounds_comm _ _ hji]
          exact h3.2.2

/-- Number i may be taken first: what it yields hangs on the condition alone. -/
theorem Late.take {i : Nat} {oi : Oper} {v : Value} {n : Nat} {l : Array Bool} {a : Act} {w : World} {tl : List Oper} (hi' : ops.toList.drop i = oi :: tl)
    (hki : ((ops[k]?).map fun o => o.after.any fun e => Region.binds .any e && e.on == i) = some true) (hs : Region.noSelect ops = true) (hf : Region.free .any ops l i = true) (hr : (Region.ready .any ops l).contains i = true)
    (hQ : ∀ c a w, Q (.panic c) (a.put oi.dst v) w → Q (.panic c) a w) (hy : YieldsIf P ops S oi v a) (hS : S w) (h : Late P ops Q S k n (l.setIfInBounds i true) (a.put oi.dst v) w) (hkl : l.getD k true = false := by kernel_rfl) : Late P ops Q S k (n + 1) l a w := by
  have hi := op_at hi'
  cases hk : ops[k]? with
  | none => rw [hk] at hki; cases hki
  | some ok =>
    rw [hk] at hki
    simp only [Option.map_some, Option.some.injEq, Array.any_eq_true', Bool.and_eq_true, beq_iff_eq] at hki
    exact Late.first hi hk hki (Region.noSelect_spec hs) hQ n l a w (Region.free_spec hi hf) hkl (by simpa using hr) hy hS h

/-- One alone may come up. -/
theorem Late.one {i : Nat} {o : Oper} {n : Nat} {l : Array Bool} {a : Act} {w : World} {tl : List Oper} (hr : Region.ready .any ops l = [i]) (ho : ops.toList.drop i = o :: tl)
    (h : ∀ K' : Act → World → Prop, Shut (∀ a w, (i ≠ k → S w) → Late P ops Q S k n (l.setIfInBounds i true) a w → K' a w) → if Region.wanted o (yielded ops a.tmps) = true then Oper.wp P o a w K' Q else K' (a.put o.dst undef) w) : Late P ops Q S k (n + 1) l a w := by
  constructor
  · intro h0
    rw [hr] at h0
    simp at h0
  · intro j hj
    rw [hr] at hj
    simp at hj
    rw [hj]
    exact wpOp_step (op_at ho) (fun K' hK => h K' (fun a w hS hW => hK a w ⟨fun h _ => hS h, hW⟩))

/-- One alone may come up, behind the store. -/
theorem Late.late {i : Nat} {o : Oper} {n : Nat} {l : Array Bool} {a : Act} {w : World} {tl : List Oper} (hr : Region.ready .any ops l = [i]) (ho : ops.toList.drop i = o :: tl) (hl : l.getD k true = true)
    (h : ∀ K' : Act → World → Prop, Shut (∀ a w, Late P ops Q S k n (l.setIfInBounds i true) a w → K' a w) → if Region.wanted o (yielded ops a.tmps) = true then Oper.wp P o a w K' Q else K' (a.put o.dst undef) w) : Late P ops Q S k (n + 1) l a w := by
  constructor
  · intro h0
    rw [hr] at h0
    simp at h0
  · intro j hj
    rw [hr] at hj
    simp at hj
    rw [hj]
    exact wpOp_step (op_at ho) (fun K' hK => h K' (fun a w hW => hK a w ⟨fun _ h0 => (by rw [hl] at h0; cases h0), hW⟩))

/-- One of two may come up. -/
theorem Late.two {i i' : Nat} {o o' : Oper} {n : Nat} {l : Array Bool} {a : Act} {w : World} {tl tl' : List Oper} (hr : Region.ready .any ops l = [i, i']) (ho : ops.toList.drop i = o :: tl) (ho' : ops.toList.drop i' = o' :: tl')
    (h : ∀ K' : Act → World → Prop, Shut (∀ a w, (i ≠ k → S w) → Late P ops Q S k n (l.setIfInBounds i true) a w → K' a w) → if Region.wanted o (yielded ops a.tmps) = true then Oper.wp P o a w K' Q else K' (a.put o.dst undef) w)
    (h' : ∀ K' : Act → World → Prop, Shut (∀ a w, (i' ≠ k → S w) → Late P ops Q S k n (l.setIfInBounds i' true) a w → K' a w) → if Region.wanted o' (yielded ops a.tmps) = true then Oper.wp P o' a w K' Q else K' (a.put o'.dst undef) w) : Late P ops Q S k (n + 1) l a w := by
  constructor
  · intro h0
    rw [hr] at h0
    simp at h0
  · intro j hj
    rw [hr] at hj
    simp only [List.mem_cons, List.not_mem_nil, or_false] at hj
    rcases hj with hj | hj
    · rw [hj]
      exact wpOp_step (op_at ho) (fun K' hK => h K' (fun a w hS hW => hK a w ⟨fun h _ => hS h, hW⟩))
    · rw [hj]
      exact wpOp_step (op_at ho') (fun K' hK => h' K' (fun a w hS hW => hK a w ⟨fun h _ => hS h, hW⟩))

/-- All have come up. -/
theorem Late.done {l : Array Bool} {a : Act} {w : World} (hr : Region.ready .any ops l = []) (h : Q .normal a w) : ∀ n, Late P ops Q S k n l a w
  | 0 => ⟨hr, h⟩
  | _ + 1 => ⟨fun _ => h, by rw [hr]; simp⟩

end

end Go.Proofs.YtbkkjfgjlapadaaGreat
