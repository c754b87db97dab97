/-
  Plain lemmas on a region that draws its order and ends in one operation that waits for all others (a store into the very field that the region reads): a condition on the world is held behind every operation but that last one. No condition; nothing of the program is named here.
-/
import Derived.Test.YtbkkjfgjlapadaaGreatKit
import Derived.OrdersHeld
import Derived.RegionTactic
namespace Go.Proofs.YtbkkjfgjlapadaaGreat
open Go.RowKit

/-- Whatever comes up next from here on; behind each operation but number k this holds of the world. -/
def Upto (P : Program) (ops : Array Oper) (Q : Exit → Act → World → Prop) (S : World → Prop) (k : Nat) : Nat → Array Bool → Act → World → Prop
  | 0, l, a, w => Region.ready .any ops l = [] ∧ Q .normal a w
  | n + 1, l, a, w => (Region.ready .any ops l = [] → Q .normal a w) ∧ ∀ j ∈ Region.ready .any ops l, wpOp P ops Q j (fun a' w' => (j ≠ k → S w') ∧ Upto P ops Q S k n (l.setIfInBounds j true) a' w') a w

section
variable {P : Program} {ops : Array Oper} {Q : Exit → Act → World → Prop} {S : World → Prop} {k : Nat}

theorem Upto.any : ∀ (n : Nat) (l : Array Bool) (a : Act) (w : World), Upto P ops Q S k n l a w → wpAny P .any ops Q n l a w
  | 0, _, _, _, h => h
  | n + 1, _, _, _, h => ⟨h.1, fun j hj => wpOp_mono (fun a' w' h' => Upto.any n _ a' w' h'.2) (h.2 j hj)⟩

/-- The beginning. -/
theorem Upto.start {id : Nat} {a : Act} {w : World} (hm : P.follows .mixedOrders = true) (h : Upto P ops Q S k ops.size (Array.replicate ops.size false) a w.drew) : (Code.region id ops true).wp P Q a w :=
  wp_region_any hm (Upto.any _ _ _ _ h)

theorem unlisted {l : Array Bool} {i : Nat} (h0 : l.getD i true = false) (h1 : l.getD i false = true) : False := by
  by_cases hi : i < l.size
  · simp [hi] at h0 h1
    rw [h0] at h1
    cases h1
  · simp [Array.getElem?_eq_none (Nat.le_of_not_lt hi)] at h1

theorem Upto.first {i : Nat} {oi ok : Oper} {v : Value} (hi : ops[i]? = some oi) (hk : ops[k]? = some ok) (hki : ∃ e ∈ ok.after, Region.binds .any e = true ∧ e.on = i)
    (hsel : ∀ (j : Nat) (o : Oper) cs b, ops[j]? = some o → o.op ≠ .select cs b) (hQ : ∀ c a w, Q (.panic c) (a.put oi.dst v) w → Q (.panic c) a w) (n : Nat) :
    ∀ (l : Array Bool) (a : Act) (w : World),
      (∀ j oj, ops[j]? = some oj → j ≠ i → l.getD j true = false → (∀ e ∈ oj.after, Region.binds .any e = true → e.on ≠ i) → oi.apart ops oj = true) →
      i ∈ Region.ready .any ops l → YieldsIf P ops S oi v a → S w → Upto P ops Q S k n (l.setIfInBounds i true) (a.put oi.dst v) w → Upto P ops Q S k (n + 1) l a w := by
  induction n with
  | zero =>
    intro l a w _ hr hy hS H
    constructor
    · intro h
      rw [h] at hr
      simp at hr
    · intro j hj
      by_cases hji : j = i
      · rw [hji]
        exact hy.wpOp hi hS ⟨fun _ => hS, H⟩
      · have h2 := ready_mono (i := i) hj hji
        rw [H.1] at h2
        simp at h2
  | succ n ih =>
    intro l a w hfree hr hy hS H
    constructor
    · intro h
      rw [h] at hr
      simp at hr
    · intro j hj
      by_cases hji : j = i
      · rw [hji]
        exact hy.wpOp hi hS ⟨fun _ => hS, H⟩
      · obtain ⟨hju, oj, hoj, hall⟩ := mem_ready.1 hj
        have hiu := (mem_ready.1 hr).1
        have hno : ∀ e ∈ oj.after, Region.binds .any e = true → e.on ≠ i := fun e he hb hon => unlisted hiu (hon ▸ hall e he hb)
        have hjk : j ≠ k := by
          intro hjk
          rw [hjk, hk] at hoj
          obtain ⟨e, he, hb, hon⟩ := hki
          cases hoj
          exact hno e he hb hon
        have h1 := H.2 j (ready_mono hj hji)
        have h2 := wpOp_putIf hoj (hfree j oj hoj hji hju hno) (fun cs b => hsel i oi cs b hi) (fun cs b => hsel j oj cs b hoj) hQ hy h1
        refine wpOp_mono ?_ h2
        intro a' w' h3
        have hS' := h3.2.1 hjk
        refine ⟨fun _ => hS', ih _ a' w' ?_ (ready_mono hr (Ne.symm hji)) h3.1 hS' ?_⟩
        · intro m om hm hmi hun hnm
          refine hfree m om hm hmi ?_ hnm
          by_cases hjm : j = m
          · rw [← hjm]
            exact hju
          · rw [getD_set_ne true hjm] at hun
            exact hun
        · rw [Array.setIfInBounds_comm _ _ hji]
          exact h3.2.2

theorem op_at {i : Nat} {o : Oper} {tl : List Oper} (h : ops.toList.drop i = o :: tl) : ops[i]? = some o := by
  have h1 : (ops.toList.drop i)[0]? = some o := by rw [h]; rfl
  rw [List.getElem?_drop] at h1
  simpa using h1

/-- Number i may be taken first: what it yields hangs on the condition alone. -/
theorem Upto.take {i : Nat} {oi : Oper} {v : Value} {n : Nat} {l : Array Bool} {a : Act} {w : World} {tl : List Oper} (hi' : ops.toList.drop i = oi :: tl)
    (hki : ((ops[k]?).map fun o => o.after.any fun e => Region.binds .any e && e.on == i) = some true) (hs : Region.noSelect ops = true) (hf : Region.free .any ops l i = true) (hr : (Region.ready .any ops l).contains i = true)
    (hQ : ∀ c a w, Q (.panic c) (a.put oi.dst v) w → Q (.panic c) a w) (hy : YieldsIf P ops S oi v a) (hS : S w) (h : Upto P ops Q S k n (l.setIfInBounds i true) (a.put oi.dst v) w) : Upto P ops Q S k (n + 1) l a w := by
  have hi := op_at hi'
  cases hk : ops[k]? with
  | none => rw [hk] at hki; cases hki
  | some ok =>
    rw [hk] at hki
    simp only [Option.map_some, Option.some.injEq, Array.any_eq_true', Bool.and_eq_true, beq_iff_eq] at hki
    exact Upto.first hi hk hki (Region.noSelect_spec hs) hQ n l a w (Region.free_spec hi hf) (by simpa using hr) hy hS h

/-- One alone may come up. -/
theorem Upto.one {i : Nat} {o : Oper} {n : Nat} {l : Array Bool} {a : Act} {w : World} {tl : List Oper} (hr : Region.ready .any ops l = [i]) (ho : ops.toList.drop i = o :: tl)
    (h : ∀ K' : Act → World → Prop, Shut (∀ a w, (i ≠ k → S w) → Upto P ops Q S k n (l.setIfInBounds i true) a w → K' a w) → if Region.wanted o (yielded ops a.tmps) = true then Oper.wp P o a w K' Q else K' (a.put o.dst undef) w) : Upto P ops Q S k (n + 1) l a w := by
  constructor
  · intro h0
    rw [hr] at h0
    simp at h0
  · intro j hj
    rw [hr] at hj
    simp at hj
    rw [hj]
    exact wpOp_step (op_at ho) (fun K' hK => h K' (fun a w hS hW => hK a w ⟨hS, hW⟩))

/-- All have come up. -/
theorem Upto.done {l : Array Bool} {a : Act} {w : World} (hr : Region.ready .any ops l = []) (h : Q .normal a w) : ∀ n, Upto P ops Q S k n l a w
  | 0 => ⟨hr, h⟩
  | _ + 1 => ⟨fun _ => h, by rw [hr]; simp⟩

end

end Go.Proofs.YtbkkjfgjlapadaaGreat
