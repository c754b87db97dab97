/-
  The walks of the specification's l8At and l8Stripe: where a stripe's entry is, a stripe as it is asked. Conditions: the array weighs at most 2097152; l8Stripe: a right Geo, such a stripe.
-/
import Derived.Test.YtechckninoilhaaGreatWalkArr
import Derived.Test.YtechckninoilhaaGreatFrame
namespace Go.Proofs.YtechckninoilhaaGreat
open Go.RowKit

/-- The place of a stripe's entry; -1: there is none. -/
def at8 (ds : List (Int × List Int)) (s : Int) : Int :=
  match ds.findIdx? (fun e => decide (e.1 = s)) with
  | some i => (i : Int)
  | none => -1
theorem at8_hit {ds : List (Int × List Int)} {s : Int} {j : Nat} {e : Int × List Int} (hj : ds[j]? = some e) (he : e.1 = s) (hb : ∀ i e', i < j → ds[i]? = some e' → ¬ e'.1 = s) : at8 ds s = (j : Int) := by
  have hl := (List.getElem?_eq_some_iff.1 hj).1
  have : ds.findIdx? (fun e => decide (e.1 = s)) = some j := by
    rw [List.findIdx?_eq_some_iff_getElem]
    refine ⟨hl, ?_, fun i hi => ?_⟩
    · have : ds[j] = e := by rw [List.getElem?_eq_getElem hl] at hj; simpa using hj
      rw [this]; simpa using he
    · have := hb i ds[i] hi (List.getElem?_eq_getElem (by omega))
      simpa using this
  unfold at8
  rw [this]
theorem at8_none {ds : List (Int × List Int)} {s : Int} (hb : ∀ i e', i < ds.length → ds[i]? = some e' → ¬ e'.1 = s) : at8 ds s = -1 := by
  have : ds.findIdx? (fun e => decide (e.1 = s)) = none := by
    rw [List.findIdx?_eq_none_iff]
    intro e he
    obtain ⟨i, hi⟩ := List.mem_iff_getElem?.1 he
    have := hb i e (List.getElem?_eq_some_iff.1 hi).1 hi
    simpa using this
  unfold at8
  rw [this]
theorem at8_cases (ds : List (Int × List Int)) (s : Int) : at8 ds s = -1 ∨ ∃ (j : Nat) (e : Int × List Int), at8 ds s = (j : Int) ∧ ds[j]? = some e ∧ e.1 = s := by
  unfold at8
  cases h : ds.findIdx? (fun e => decide (e.1 = s)) with
  | none => exact .inl rfl
  | some i =>
    rw [List.findIdx?_eq_some_iff_getElem] at h
    obtain ⟨hl, hp, _⟩ := h
    exact .inr ⟨i, ds[i], rfl, List.getElem?_eq_getElem hl, by simpa using hp⟩

end Go.Proofs.YtechckninoilhaaGreat
