/-
  Plain lemmas on slices of what takes four cells (disks): an element's cells, and one element stored. No condition; nothing of the program is named here.
-/
import Derived.Test.YtbkkjfgjlapadaaGreatDeep
namespace Go.Proofs.YtbkkjfgjlapadaaGreat
open Go.RowKit

theorem quads_at {t : Ty} {E : TypeId} {w : World} {a : Option Addr} {n cap : Nat} {d : List t.D} (ht : t.n = 4) (h : (rowTy t E).Rd w [.slice a n cap] d) :
    n = 0 ∨ ∃ b off, a = some ⟨b, off, none⟩ ∧ b < w.heap.size ∧ ∀ i x, d[i]? = some x → ∃ v0 v1 v2 v3, w.cell? ⟨b, off + i * 4, none⟩ = some v0 ∧ w.cell? ⟨b, off + i * 4 + 1, none⟩ = some v1 ∧ w.cell? ⟨b, off + i * 4 + 2, none⟩ = some v2 ∧ w.cell? ⟨b, off + i * 4 + 3, none⟩ = some v3 ∧ t.Rd w [v0, v1, v2, v3] x := by
  obtain ⟨fp, a', cap', hv, h2, h3, h4⟩ := h
  simp only [List.cons.injEq, Value.slice.injEq, and_true] at hv
  obtain ⟨rfl, rfl, rfl⟩ := hv
  rcases h4 with ⟨h5, _⟩ | ⟨b, off, fps, h5, h6, _, _, h9⟩
  · exact .inl h5
  · refine .inr ⟨b, off, h5, h6, fun i x hx => ?_⟩
    obtain ⟨f, cs, _, hrd, hc⟩ := h9 i x hx
    have hl := t.rdLen hrd
    rw [ht] at hl
    match cs, hl with
    | [v0, v1, v2, v3], _ =>
      refine ⟨v0, v1, v2, v3, ?_, ?_, ?_, ?_, f, hrd⟩
      · have := hc 0 (by omega)
        rw [ht, Nat.add_zero] at this
        exact this
      · have := hc 1 (by omega)
        rw [ht, ← Nat.add_assoc] at this
        exact this
      · have := hc 2 (by omega)
        rw [ht, ← Nat.add_assoc] at this
        exact this
      · have := hc 3 (by omega)
        rw [ht, ← Nat.add_assoc] at this
        exact this

/-- Four cells. -/
theorem row_store4 {t : Ty} {E : TypeId} {w : World} {lo hi lo' hi' g n cap j : Nat} {d : List t.D} {v0 v1 v2 v3 : Value} {x : t.D} (ht : t.n = 4) (h : (rowTy t E).Own w lo hi [.slice (some ⟨g, 0, none⟩) n cap] d)
    (hj : j < n) (hx : t.Own w lo' hi' [v0, v1, v2, v3] x) (hlo : hi ≤ lo') (hle : hi ≤ hi') :
    (∀ q, q < 4 → ∃ old, w.cell? ⟨g, j * 4 + q, none⟩ = some old) ∧ (∀ q, w.frozen? ⟨g, q, none⟩ = false) ∧
      (rowTy t E).Own ((((w.setCell ⟨g, j * 4, none⟩ v0).setCell ⟨g, j * 4 + 1, none⟩ v1).setCell ⟨g, j * 4 + 2, none⟩ v2).setCell ⟨g, j * 4 + 3, none⟩ v3) lo hi' [.slice (some ⟨g, 0, none⟩) n cap] (d.set j x) ∧
      But lo hi w ((((w.setCell ⟨g, j * 4, none⟩ v0).setCell ⟨g, j * 4 + 1, none⟩ v1).setCell ⟨g, j * 4 + 2, none⟩ v2).setCell ⟨g, j * 4 + 3, none⟩ v3) := by
  obtain ⟨cur, hc, hcs, hnc, _, _⟩ := row_block h
  rw [ht] at hcs
  refine ⟨fun q hq => ⟨cur[j * 4 + q]'(by omega), ?_⟩, fun q => frozen_of_row w g _ cur E hc, ?_⟩
  · rw [cell_of_row w g _ cur E (0, 0) hc, Array.getElem?_eq_getElem]
  · refine row_store h hj hx hlo hle rfl rfl rfl (by simp) (fun b hb => ?_) (fun cur2 hc2 _ => ?_)
    · rw [Below.heap_setCell _ _ _ _ hb, Below.heap_setCell _ _ _ _ hb, Below.heap_setCell _ _ _ _ hb, Below.heap_setCell _ _ _ _ hb]
    · rw [hc] at hc2
      simp at hc2
      subst hc2
      refine ⟨(((cur.setIfInBounds (j * 4) v0).setIfInBounds (j * 4 + 1) v1).setIfInBounds (j * 4 + 2) v2).setIfInBounds (j * 4 + 3) v3, heap_setCell_same _ g _ _ E v3 (heap_setCell_same _ g _ _ E v2 (heap_setCell_same _ g _ _ E v1 (heap_setCell_same w g _ cur E v0 hc))), by simp, fun k => ?_⟩
      rw [ht, Array.toList_setIfInBounds, Array.toList_setIfInBounds, Array.toList_setIfInBounds, Array.toList_setIfInBounds]
      by_cases h0 : k = j * 4
      · subst h0
        rw [if_pos (by omega), List.getElem?_set_ne (by omega), List.getElem?_set_ne (by omega), List.getElem?_set_ne (by omega), List.getElem?_set_self (by simp; omega), Nat.sub_self]
        rfl
      · by_cases h1 : k = j * 4 + 1
        · subst h1
          rw [if_pos (by omega), List.getElem?_set_ne (by omega), List.getElem?_set_ne (by omega), List.getElem?_set_self (by simp; omega), Nat.add_sub_cancel_left]
          rfl
        · by_cases h2 : k = j * 4 + 2
          · subst h2
            rw [if_pos (by omega), List.getElem?_set_ne (by omega), List.getElem?_set_self (by simp; omega), Nat.add_sub_cancel_left]
            rfl
          · by_cases h3 : k = j * 4 + 3
            · subst h3
              rw [if_pos (by omega), List.getElem?_set_self (by simp; omega), Nat.add_sub_cancel_left]
              rfl
            · rw [if_neg (by omega), List.getElem?_set_ne (by omega), List.getElem?_set_ne (by omega), List.getElem?_set_ne (by omega), List.getElem?_set_ne (by omega)]

end Go.Proofs.YtbkkjfgjlapadaaGreat
