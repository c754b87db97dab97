/-
  The walks of slices.DeleteFunc and slices.IndexFunc over a slice of int with WriteSec's closure (is it this number?): what is left without that number, in place. Condition: at most 2097152 elements.
-/
import Derived.Test.YtialakmmifhliaaStore
import Derived.Lib.SliceRun
namespace Go.Proofs.Ytialakmmifhliaa
open Go.RowKit

/-- A slice of numbers of one's own, by its one block. -/
theorem ints_row {w : World} {v : Value} {zs : List Int} {f : List Nat} (h : tIntS.ow w [v] zs f) : (v = .slice none 0 0 ∧ zs = [] ∧ f = []) ∨ ∃ g cap, v = .slice (some ⟨g, 0, none⟩) zs.length cap ∧ f = [g] ∧ Go.Proofs.Ytialakmmifhliaa.Own .i64 3 w g (g + 1) v zs := by
  rcases h with ⟨h1, h2, h3⟩ | ⟨b, cap, cur, fps, h1, h2, h3, h4, h5, h6, h7, h8⟩
  · exact .inl ⟨by simpa using h1, h2, h3⟩
  · have hv : v = .slice (some ⟨b, 0, none⟩) zs.length cap := by simpa using h1
    have hfl : fps.flatten = [] := by
      rw [List.flatten_eq_nil_iff]
      intro f' hf'
      obtain ⟨i, hi⟩ := List.mem_iff_getElem?.1 hf'
      have hil : i < zs.length := by rw [← h7]; exact (List.getElem?_eq_some_iff.1 hi).1
      obtain ⟨f2, hf2, _, h10⟩ := h8 i _ (List.getElem?_eq_getElem hil)
      rw [hi] at hf2
      simp at hf2
      rw [hf2]
      exact h10
    have h5' : cur.size = cap * 1 := h5
    refine .inr ⟨b, cap, hv, by rw [h6, hfl], ⟨by simp, .inr ⟨b, cap, cur, hv, Nat.le_refl _, h4, h2, by unfold maxLen; exact h3, h5', ?_⟩⟩, fun g hg => by rw [hv] at hg; simp [Value.ownBlock] at hg; omega⟩
    apply List.ext_getElem?
    intro i
    rw [List.getElem?_take, List.getElem?_map]
    by_cases hi : i < zs.length
    · obtain ⟨f2, _, h9, _⟩ := h8 i _ (List.getElem?_eq_getElem hi)
      have h9' : (cur.toList.drop (i * 1)).take 1 = [.int .i64 zs[i]] := h9
      have : ((cur.toList.drop (i * 1)).take 1)[0]? = some (.int .i64 zs[i]) := by rw [h9']; rfl
      rw [List.getElem?_take, if_pos (by omega), List.getElem?_drop] at this
      rw [if_pos (by omega), List.getElem?_eq_getElem hi]
      simpa using this
    · rw [if_neg (by omega), List.getElem?_eq_none (by omega)]
      rfl

/-- The numbers without one. -/
def filt (zs : List Int) (n : Int) : List Int := zs.filter fun x => decide (x ≠ n)
theorem filt_none {zs : List Int} {n : Int} (h : ∀ x ∈ zs, x ≠ n) : filt zs n = zs := by
  unfold filt
  rw [List.filter_eq_self]
  intro x hx
  simp [h x hx]
theorem filt_snoc (zs : List Int) (x n : Int) : filt (zs ++ [x]) n = if x = n then filt zs n else filt zs n ++ [x] := by
  unfold filt
  rw [List.filter_append]
  by_cases h : x = n <;> simp [h]
theorem filt_length (zs : List Int) (n : Int) : (filt zs n).length ≤ zs.length := List.length_filter_le _ _

theorem mine_of_own {w : World} {g n cap : Nat} {zs : List Int} (h : Own .i64 3 w g (g + 1) (.slice (some ⟨g, 0, none⟩) n cap) zs) : tIntS.Own w g (g + 1) [.slice (some ⟨g, 0, none⟩) n cap] zs := by
  obtain ⟨fp, m1, m2⟩ := mine_ints h.1
  exact m1.own (fun b hb => by
    have := (m2 b hb).1
    simp [Value.ownBlock] at this
    omega)

/-- A row's tail is cleared. -/
theorem Own.zeros {g n cap : Nat} : ∀ (k i : Nat) (w : World) (L : List Int), Own .i64 3 w g (g + 1) (.slice (some ⟨g, 0, none⟩) n cap) L → i + k ≤ n → ∃ L', Own .i64 3 (w.setCells g i (List.replicate k (.int .i64 0))) g (g + 1) (.slice (some ⟨g, 0, none⟩) n cap) L' ∧ L'.take i = L.take i ∧ But g (g + 1) w (w.setCells g i (List.replicate k (.int .i64 0)))
  | 0, i, w, L, h, _ => ⟨L, h, rfl, But.refl _ _ _⟩
  | k + 1, i, w, L, h, hk => by
    obtain ⟨_, _, h1, h2⟩ := h.store i (by omega) 0
    obtain ⟨L', h3, h4, h5⟩ := Own.zeros k (i + 1) _ _ h1 (by omega)
    refine ⟨L', h3, ?_, h2.trans h5⟩
    have := congrArg (List.take i) h4
    rw [List.take_take, List.take_take, Nat.min_eq_left (by omega)] at this
    rw [this]
    apply List.ext_getElem?
    intro m
    rw [List.getElem?_take, List.getElem?_take]
    by_cases hm : m < i
    · rw [if_pos hm, if_pos hm, List.getElem?_set_ne (by omega)]
    · rw [if_neg hm, if_neg hm]
/-- .. and cut off. -/
theorem Own.cut {w : World} {g n cap i : Nat} {L : List Int} (h : Own .i64 3 w g (g + 1) (.slice (some ⟨g, 0, none⟩) n cap) L) (hi : i ≤ n) : Own .i64 3 w g (g + 1) (.slice (some ⟨g, 0, none⟩) i cap) (L.take i) := by
  have hl := h.length
  obtain ⟨h1, h2⟩ := h
  refine ⟨⟨by simp, ?_⟩, fun b hb => by simp [Value.ownBlock] at hb; omega⟩
  rcases h1.2 with ⟨hv, _⟩ | ⟨g', cap', cur, hv, hb, hg, hnc, hcm, hcs, ht⟩
  · simp at hv
  · simp only [Value.slice.injEq, Option.some.injEq, Addr.mk.injEq, and_true] at hv
    obtain ⟨rfl, hv2, rfl⟩ := hv
    refine .inr ⟨g, cap, cur, by rw [List.length_take, Nat.min_eq_left (by omega)], hb, hg, by rw [List.length_take]; omega, hcm, hcs, ?_⟩
    rw [List.length_take, Nat.min_eq_left (by omega), List.map_take, ← ht, List.take_take, hl]
    congr 1
    omega

end Go.Proofs.Ytialakmmifhliaa
