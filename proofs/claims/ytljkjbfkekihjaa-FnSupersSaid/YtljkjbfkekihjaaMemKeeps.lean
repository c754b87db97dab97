/-
  A disk that is MemOk stays so: new, flushed or fallen, written, spoilt. Plain lemmas. No condition.
-/
import Derived.Test.YtljkjbfkekihjaaWalkSpoilSpec
import Derived.Test.YtljkjbfkekihjaaWalkWriteSpec
import Derived.Test.YtljkjbfkekihjaaWalkMemNew
namespace Go.Proofs.Ytljkjbfkekihjaa
open Go.RowKit

theorem asc_pairwise {bs : List Int} (ha : ∀ i, i + 1 < bs.length → bs.getD i 0 < bs.getD (i + 1) 0) : bs.Pairwise (· < ·) := by
  have mono : ∀ d i, i + (d + 1) < bs.length → bs.getD i 0 < bs.getD (i + (d + 1)) 0 := by
    intro d
    induction d with
    | zero => intro i hi; exact ha i hi
    | succ d ih =>
      intro i hi
      have h1 := ih i (by omega)
      have h2 := ha (i + (d + 1)) (by omega)
      have e : i + (d + 1) + 1 = i + (d + 1 + 1) := by omega
      rw [e] at h2
      omega
  rw [List.pairwise_iff_getElem]
  intro i j hi hj hij
  have h := mono (j - i - 1) i (by omega)
  have e : i + (j - i - 1 + 1) = j := by omega
  rw [e, List.getD_eq_getElem?_getD, List.getD_eq_getElem?_getD, List.getElem?_eq_getElem hi, List.getElem?_eq_getElem hj] at h
  exact h

theorem badB_iff (n : Int) (bs : List Int) : badB n bs = true ↔ (∀ x ∈ bs, 0 ≤ x ∧ x ≤ n - 1) ∧ bs.Pairwise (· < ·) := by
  unfold badB
  rw [List.all_eq_true]
  constructor
  · intro h
    refine ⟨fun x hx => ?_, asc_pairwise (fun i hi => ?_)⟩
    · obtain ⟨i, hi⟩ := List.mem_iff_getElem?.1 hx
      have hil : i < bs.length := (List.getElem?_eq_some_iff.1 hi).1
      have h1 := h i (List.mem_range.2 hil)
      unfold badAt inB at h1
      rw [List.getD_eq_getElem?_getD, hi] at h1
      simp at h1
      omega
    · have h1 := h (i + 1) (List.mem_range.2 hi)
      unfold badAt at h1
      simp at h1
      rw [List.getD_eq_getElem?_getD, List.getD_eq_getElem?_getD]
      exact h1.2
  · rintro ⟨h1, h2⟩ i hi
    have hil : i < bs.length := List.mem_range.1 hi
    unfold badAt inB
    have e : bs.getD i 0 = bs[i] := by rw [List.getD_eq_getElem?_getD, List.getElem?_eq_getElem hil]; rfl
    have h3 := h1 bs[i] (List.getElem_mem hil)
    rw [e]
    simp only [Bool.and_eq_true, Bool.or_eq_true, decide_eq_true_eq]
    refine ⟨⟨by omega, by omega⟩, ?_⟩
    by_cases h0 : i = 0
    · exact .inl h0
    · right
      have h4 := List.pairwise_iff_getElem.1 h2 (i - 1) i (by omega) hil (by omega)
      rw [List.getD_eq_getElem?_getD, List.getElem?_eq_getElem (by omega : i - 1 < bs.length)]
      exact h4

theorem memB_iff (ss : List (List Int)) (cs : List (Int × List Int)) (bs : List Int) : memB ss cs bs = true ↔ (∀ x ∈ ss, secB x = true) ∧ (∀ x ∈ cs, wrB ss.length x = true) ∧ badB ss.length bs = true ∧ inB ss.length 1 20 = true ∧ cs.length ≤ 60 := by
  unfold memB
  simp only [Bool.and_eq_true, List.all_eq_true, decide_eq_true_eq]

theorem memB_flush {ss : List (List Int)} {cs : List (Int × List Int)} {bs : List Int} (h : memB ss cs bs = true) (ks : List (Int × List Int)) (hk : ∀ x ∈ ks, x ∈ cs) : memB (flushD ss ks) [] bs = true := by
  obtain ⟨h1, h2, h3, h4, _⟩ := (memB_iff _ _ _).1 h
  rw [memB_iff, flushD_length]
  refine ⟨fun x hx => ?_, by simp, h3, h4, by simp⟩
  unfold flushD at hx
  obtain ⟨k, hkr, rfl⟩ := List.mem_map.1 hx
  have hkl : k < ss.length := List.mem_range.1 hkr
  cases hl : lastW ks (k : Int) with
  | some zs =>
    have h5 := h2 _ (hk _ (lastW_mem hl))
    unfold wrB at h5
    simp only [Bool.and_eq_true] at h5
    exact h5.2
  | none => exact h1 _ (List.mem_of_getElem? (getD_some hkl))

theorem memB_write {ss : List (List Int)} {cs : List (Int × List Int)} {f : Bool} {bs : List Int} {n : Int} {sw : List Int} (h : wrOk ss cs f bs n sw = true) : memB ss (cs ++ [(n, sw)]) (filt bs n) = true := by
  unfold wrOk at h
  simp only [Bool.and_eq_true, decide_eq_true_eq] at h
  obtain ⟨hM, _, hI, hS, hL⟩ := h
  obtain ⟨h1, h2, h3, h4, _⟩ := (memB_iff _ _ _).1 hM
  rw [memB_iff]
  refine ⟨h1, fun x hx => ?_, ?_, h4, by rw [List.length_append]; simp; omega⟩
  · rcases List.mem_append.1 hx with hx | hx
    · exact h2 x hx
    · simp at hx
      subst hx
      unfold wrB
      rw [hI, hS]
      rfl
  · rw [badB_iff] at h3 ⊢
    exact ⟨fun x hx => h3.1 x (List.mem_filter.1 hx).1, h3.2.filter _⟩

theorem memB_spoil {ss : List (List Int)} {cs : List (Int × List Int)} {bs : List Int} {n : Int} (h : spOk ss cs bs n = true) : memB ss cs (insD bs n) = true := by
  unfold spOk at h
  simp only [Bool.and_eq_true, Bool.not_eq_true'] at h
  obtain ⟨hM, hI, hH⟩ := h
  have hasc := bad_lt hM
  obtain ⟨h1, h2, h3, h4, h5⟩ := (memB_iff _ _ _).1 hM
  rw [memB_iff]
  refine ⟨h1, h2, ?_, h4, h5⟩
  rw [badB_iff] at h3 ⊢
  have hn : ∀ x ∈ bs, x ≠ n := by
    intro x hx e
    unfold inL at hH
    rw [List.any_eq_false] at hH
    exact hH x hx (by simp [e])
  unfold inB at hI
  simp at hI
  refine ⟨fun x hx => ?_, ?_⟩
  · unfold insD at hx
    rcases List.mem_append.1 hx with hx | hx
    · exact h3.1 x (List.mem_of_mem_take hx)
    · rcases List.mem_cons.1 hx with rfl | hx
      · omega
      · exact h3.1 x (List.mem_of_mem_drop hx)
  · have hp := h3.2
    have hle : ∀ (l : List Int), l.Pairwise (· < ·) → (∀ x ∈ l, x ≠ n) → ∃ k, k ≤ l.length ∧ (∀ x ∈ l.take k, x ≤ n) ∧ (∀ x ∈ l.drop k, n < x) := by
      intro l
      induction l with
      | nil => intro _ _; exact ⟨0, by simp, by simp, by simp⟩
      | cons y l ih =>
        intro hp hne
        rw [List.pairwise_cons] at hp
        by_cases hy : y ≤ n
        · obtain ⟨k, k1, k2, k3⟩ := ih hp.2 (fun x hx => hne x (List.mem_cons_of_mem _ hx))
          refine ⟨k + 1, by simp; omega, fun x hx => ?_, by simpa using k3⟩
          rw [List.take_succ_cons] at hx
          rcases List.mem_cons.1 hx with rfl | hx
          · exact hy
          · exact k2 x hx
        · refine ⟨0, by simp, by simp, fun x hx => ?_⟩
          rw [List.drop_zero] at hx
          rcases List.mem_cons.1 hx with rfl | hx
          · omega
          · have := hp.1 x hx
            omega
    obtain ⟨k, k1, k2, k3⟩ := hle bs hp hn
    rw [ins_eq k2 k3 k1]
    rw [List.pairwise_append, List.pairwise_cons]
    refine ⟨hp.sublist (List.take_sublist _ _), ⟨k3, hp.sublist (List.drop_sublist _ _)⟩, fun a ha b hb => ?_⟩
    have h6 := k2 a ha
    have h7 := hn a (List.mem_of_mem_take ha)
    rcases List.mem_cons.1 hb with rfl | hb
    · omega
    · have := k3 b hb
      omega

theorem memB_new {n : Int} (h1 : 1 ≤ n) (h2 : n ≤ 20) : memB (newSS n) [] [] = true := by
  rw [memB_iff]
  unfold newSS
  rw [if_pos ⟨h1, h2⟩]
  refine ⟨fun x hx => ?_, by simp, by rw [badB_iff]; simp, ?_, by simp⟩
  · rw [List.eq_of_mem_replicate hx]
    decide
  · unfold inB
    simp
    omega

end Go.Proofs.Ytljkjbfkekihjaa
