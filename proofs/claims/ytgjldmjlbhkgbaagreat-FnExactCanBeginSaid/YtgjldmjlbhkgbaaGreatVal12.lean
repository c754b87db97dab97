/-
  Rows of plain values: plain lemmas. No condition; nothing of the program is named here.
-/
import Derived.Test.YtgjldmjlbhkgbaaGreatBox
namespace Go.Proofs.YtgjldmjlbhkgbaaGreat
open Go.RowKit

/-- A plain value. -/
abbrev valTy : Ty where
  n := 1
  D := Value
  rd := fun _ vs d fp => vs = [d] ∧ fp = []
  ow := fun _ vs d fp => vs = [d] ∧ fp = []
  owRd := fun h => h
  rdLen := fun h => by rw [h.1]; rfl
  rdLt := fun h => by rw [h.2]; simp
  rdKept := fun h _ _ => h
  owKept := fun h _ _ => h
theorem row_mem12 {t : Ty} {E : TypeId} {w : World} {g n cap : Nat} {d : List t.D} {fp : List Nat} (h : (rowTy t E).Mine w [.slice (some ⟨g, 0, none⟩) n cap] d fp) : g ∈ fp := by
  obtain ⟨h, _⟩ := h
  rcases h with ⟨h1, _⟩ | ⟨b, cap', cur, fps, h1, _, _, _, _, hf, _⟩
  · simp at h1
  · simp at h1
    rw [hf, h1.1]
    simp

theorem val_at {w : World} {E : TypeId} {g n cap k : Nat} {ys : List Value} {v : Value} {fo : List Nat} (h : (rowTy valTy E).Mine w [.slice (some ⟨g, 0, none⟩) n cap] ys fo) (hk : ys[k]? = some v) : w.cell? ⟨g, k, none⟩ = some v ∧ g < w.heap.size := by
  obtain ⟨h, _⟩ := h
  rcases h with ⟨h1, _, _⟩ | ⟨b, cap', cur, fps, h1, h2, h3, h4, h5, h6, h7, h8⟩
  · simp at h1
  · simp only [List.cons.injEq, Value.slice.injEq, Option.some.injEq, Addr.mk.injEq, and_true] at h1
    obtain ⟨rfl, _, rfl⟩ := h1
    obtain ⟨f, _, hv, _⟩ := h8 k v hk
    refine ⟨?_, (Array.getElem?_eq_some_iff.1 h4).1⟩
    rw [cell_of_row w g _ cur _ (0, 0) h4]
    have : ((cur.toList.drop (k * 1)).take 1)[0]? = some v := by rw [hv]; rfl
    rw [List.getElem?_take, if_pos (by omega), List.getElem?_drop] at this
    simpa using this

end Go.Proofs.YtgjldmjlbhkgbaaGreat
