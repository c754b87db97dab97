/-
  Plain lemmas on one store into a row of a call's own, by its blocks, and on a row's elements with theirs. No condition; nothing of the program is named here.
-/
import Derived.Test.YtgjldmjlbhkgbaaFrame
namespace Go.Proofs.Ytgjldmjlbhkgbaa
open Go.RowKit

/-- One store into a row of what takes one cell: what is stored shares no block with the row. -/
theorem row_set1 {t : Ty} {E : TypeId} {w : World} {g n cap j : Nat} {d : List t.D} {v : Value} {x : t.D} {fp f : List Nat} (ht : t.n = 1) (h : (rowTy t E).Mine w [.slice (some ⟨g, 0, none⟩) n cap] d fp)
    (hj : j < n) (hx : t.Mine w [v] x f) (hdis : ∀ b ∈ f, b ∉ fp) :
    (∃ old, w.cell? ⟨g, j, none⟩ = some old) ∧ w.frozen? ⟨g, j, none⟩ = false ∧ g ∈ fp ∧ ∃ fp', (rowTy t E).Mine (w.setCell ⟨g, j, none⟩ v) [.slice (some ⟨g, 0, none⟩) n cap] (d.set j x) fp' ∧ ∀ b ∈ fp', b ∈ fp ∨ b ∈ f := by
  obtain ⟨h, hn⟩ := h
  obtain ⟨hx, hn'⟩ := hx
  rcases h with ⟨h1, _⟩ | ⟨b, cap', cur, fps, h1, h2, h3, h4, h5, h6, h7, h8⟩
  · simp at h1
  · simp only [List.cons.injEq, Value.slice.injEq, Option.some.injEq, Addr.mk.injEq, and_true] at h1
    obtain ⟨rfl, rfl, rfl⟩ := h1
    have hgp : g ∈ fp := by rw [h6]; exact List.mem_cons_self
    have hjc : j < cur.size := by rw [h5, ht]; omega
    have hgf' : g ∉ f := fun hm => hdis g hm hgp
    rw [h6, List.nodup_cons] at hn
    obtain ⟨hgf, hnf⟩ := hn
    have hd2 : ∀ b ∈ f, b ∉ fps.flatten := fun b hb hbl => hdis b hb (by rw [h6]; exact List.mem_cons_of_mem _ hbl)
    obtain ⟨hsn, hsm⟩ := flatten_set_nodup fps j f hnf hn' hd2
    have hoth : ∀ b, b ≠ g → (w.setCell ⟨g, j, none⟩ v).heap[b]? = w.heap[b]? := fun b hb => Below.heap_setCell _ _ _ _ hb
    have hsz : w.heap.size ≤ (w.setCell ⟨g, j, none⟩ v).heap.size := by simp
    refine ⟨⟨cur[j], ?_⟩, frozen_of_row w g j cur E h4, hgp, g :: (fps.set j f).flatten, ⟨.inr ⟨g, cap, cur.setIfInBounds j v, fps.set j f, by rw [List.length_set], by rw [List.length_set]; exact h2, h3, heap_setCell_same w g j cur E v h4, by simpa using h5, rfl, by rw [List.length_set, List.length_set]; exact h7, fun i y hy => ?_⟩, ?_⟩, ?_⟩
    · rw [cell_of_row w g j cur E (0, 0) h4, Array.getElem?_eq_getElem hjc]
    · by_cases hij : i = j
      · subst hij
        have hyx : y = x := by
          rw [List.getElem?_set_self (by omega)] at hy
          simpa using hy.symm
        subst hyx
        refine ⟨f, List.getElem?_set_self (by rw [h7]; omega), ?_⟩
        have e : ((cur.setIfInBounds i v).toList.drop (i * t.n)).take t.n = [v] := by
          rw [ht, Nat.mul_one, Array.toList_setIfInBounds, List.drop_set, if_neg (by omega), Nat.sub_self, List.drop_eq_getElem_cons (by simpa using hjc), List.set_cons_zero]
          simp
        rw [e]
        exact t.owKept hx (fun b hb => hoth b (fun e => hgf' (e ▸ hb))) hsz
      · rw [List.getElem?_set_ne (fun e => hij e.symm)] at hy
        obtain ⟨f2, hf, ho⟩ := h8 i y hy
        refine ⟨f2, by rw [List.getElem?_set_ne (fun e => hij e.symm)]; exact hf, ?_⟩
        have e : ((cur.setIfInBounds j v).toList.drop (i * t.n)).take t.n = (cur.toList.drop (i * t.n)).take t.n := by
          rw [ht, Nat.mul_one, Array.toList_setIfInBounds]
          apply List.ext_getElem?
          intro k
          rw [List.getElem?_take, List.getElem?_take, List.getElem?_drop, List.getElem?_drop]
          by_cases hk : k < 1
          · rw [if_pos hk, if_pos hk, List.getElem?_set_ne (by omega)]
          · rw [if_neg hk, if_neg hk]
        rw [e]
        exact t.owKept ho (fun b hb => hoth b (fun e' => hgf (by rw [← e']; exact List.mem_flatten.2 ⟨f2, List.mem_of_getElem? hf, hb⟩))) hsz
    · rw [List.nodup_cons]
      refine ⟨fun hm => ?_, hsn⟩
      rcases hsm g hm with hm | hm
      · exact hgf' hm
      · exact hgf hm
    · intro b hb
      rcases List.mem_cons.1 hb with rfl | hb
      · exact .inl hgp
      · rcases hsm b hb with hb | hb
        · exact .inr hb
        · exact .inl (by rw [h6]; exact List.mem_cons_of_mem _ hb)

theorem flatten_apart : ∀ (fs : List (List Nat)) (i j : Nat) (f f' : List Nat), fs.flatten.Nodup → fs[i]? = some f → fs[j]? = some f' → i < j → ∀ b ∈ f, b ∉ f'
  | [], i, _, _, _, _, h, _, _ => by simp at h
  | g :: fs, 0, j + 1, f, f', hn, hi, hj, _ => by
    simp at hi
    subst hi
    rw [List.flatten_cons, List.nodup_append] at hn
    intro b hb hb'
    refine hn.2.2 b hb b (List.mem_flatten.2 ⟨f', List.mem_of_getElem? (i := j) (by simpa using hj), hb'⟩) rfl
  | g :: fs, i + 1, j + 1, f, f', hn, hi, hj, hij => by
    rw [List.flatten_cons, List.nodup_append] at hn
    exact flatten_apart fs i j f f' hn.2.1 (by simpa using hi) (by simpa using hj) (by omega)
  | g :: fs, i, 0, f, f', _, _, _, hij => by omega

/-- A row's elements, each with its blocks, no two sharing any. -/
theorem row_parts {t : Ty} {E : TypeId} {w : World} {g n cap : Nat} {d : List t.D} {fp : List Nat} (h : (rowTy t E).Mine w [.slice (some ⟨g, 0, none⟩) n cap] d fp) :
    g ∈ fp ∧ ∃ F : Nat → List Nat, (∀ i x, d[i]? = some x → ∃ cs, t.Mine w cs x (F i) ∧ g ∉ F i ∧ (∀ b ∈ F i, b ∈ fp) ∧ ∀ k, k < t.n → w.cell? ⟨g, i * t.n + k, none⟩ = cs[k]?) ∧ ∀ i j, i < j → j < d.length → ∀ b ∈ F i, b ∉ F j := by
  obtain ⟨h, hn⟩ := h
  rcases h with ⟨h1, _⟩ | ⟨b, cap', cur, fps, h1, h2, h3, h4, h5, h6, h7, h8⟩
  · simp at h1
  · simp only [List.cons.injEq, Value.slice.injEq, Option.some.injEq, Addr.mk.injEq, and_true] at h1
    obtain ⟨rfl, rfl, rfl⟩ := h1
    rw [h6, List.nodup_cons] at hn
    obtain ⟨hgf, hnf⟩ := hn
    refine ⟨by rw [h6]; exact List.mem_cons_self, fun i => fps.getD i [], fun i x hx => ?_, fun i j hij hj b hb hb' => ?_⟩
    · obtain ⟨f, hf, ho⟩ := h8 i x hx
      obtain ⟨k1, k2, _⟩ := flatten_part hnf hf
      have hgd : fps.getD i [] = f := by rw [List.getD_eq_getElem?_getD, hf]; rfl
      simp only [hgd]
      refine ⟨_, ⟨ho, k1⟩, fun hm => hgf (k2 g hm), fun b hb => by rw [h6]; exact List.mem_cons_of_mem _ (k2 b hb), fun k hk => ?_⟩
      rw [cell_of_row w g _ cur E (0, 0) h4, List.getElem?_take, if_pos hk, List.getElem?_drop]
      simp
    · have e1 : fps[i]? = some (fps.getD i []) := by rw [List.getD_eq_getElem?_getD, List.getElem?_eq_getElem (by omega)]; rfl
      have e2 : fps[j]? = some (fps.getD j []) := by rw [List.getD_eq_getElem?_getD, List.getElem?_eq_getElem (by omega)]; rfl
      exact flatten_apart fps i j _ _ hnf e1 e2 hij b hb hb'

end Go.Proofs.Ytgjldmjlbhkgbaa
