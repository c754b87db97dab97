/-
  The walk of the specification's l8Put: an entry put in its place. Condition: at most 500000 entries.
-/
import Derived.Test.YtialakmmifhliaaGreatPut8
namespace Go.Proofs.YtialakmmifhliaaGreat
open Go.RowKit

theorem putSt_a {e d : EntD} {L : List EntD} (_ : e.1 ≤ d.1) (h2 : d.1 = e.1) : putSt e (L, false) d = (L ++ [e], true) := by simp [putSt, h2]
theorem putSt_b {e d : EntD} {L : List EntD} (h1 : e.1 ≤ d.1) (h2 : ¬ d.1 = e.1) : putSt e (L, false) d = (L ++ [e] ++ [d], true) := by simp [putSt, h1, h2]
theorem putSt_c {e d : EntD} {L : List EntD} (h1 : ¬ e.1 ≤ d.1) (h2 : ¬ d.1 = e.1) : putSt e (L, false) d = (L ++ [d], false) := by simp [putSt, h1, h2]
theorem putSt_d {e d : EntD} {L : List EntD} (h2 : d.1 = e.1) : putSt e (L, true) d = (L, true) := by simp [putSt, h2]
theorem putSt_e {e d : EntD} {L : List EntD} (h2 : ¬ d.1 = e.1) : putSt e (L, true) d = (L ++ [d], true) := by simp [putSt, h2]
/-- What of the old may have turned: the entry's own blocks, once it is laid out, and those of the entries that are. -/
def InSo (fps : List (List Nat)) (fe : List Nat) (j : Nat) (dn : Bool) (fT : List Nat) : Prop := ∀ b ∈ fT, (dn = true ∧ b ∈ fe) ∨ ∃ i f, i < j ∧ fps[i]? = some f ∧ b ∈ f
theorem InSo.next {fps : List (List Nat)} {fe : List Nat} {j : Nat} {dn : Bool} {fT : List Nat} (h : InSo fps fe j dn fT) : InSo fps fe (j + 1) dn fT := fun b hb => by
  rcases h b hb with h1 | ⟨i, f, h1, h2⟩
  · exact .inl h1
  · exact .inr ⟨i, f, by omega, h2⟩
theorem InSo.entry {fps : List (List Nat)} {fe : List Nat} {j : Nat} {fT : List Nat} (h : InSo fps fe j false fT) : InSo fps fe j true (fT ++ fe) := fun b hb => by
  rcases List.mem_append.1 hb with hb | hb
  · rcases h b hb with ⟨h1, _⟩ | h1
    · cases h1
    · exact .inr h1
  · exact .inl ⟨rfl, hb⟩
theorem InSo.elem {fps : List (List Nat)} {fe f : List Nat} {j : Nat} {dn : Bool} {fT : List Nat} (h : InSo fps fe j dn fT) (hf : fps[j]? = some f) : InSo fps fe (j + 1) dn (fT ++ f) := fun b hb => by
  rcases List.mem_append.1 hb with hb | hb
  · exact h.next b hb
  · exact .inr ⟨j, f, by omega, hf, hb⟩
theorem put_turned {w wr w1 w2 : World} {fT f fp : List Nat} {N : Nat} (hT : Turned fT w wr) (h1 : Below wr.heap.size wr w1) (h2 : Turned fp w1 w2) (hfp : ∀ b ∈ fp, b ∈ fT ∨ N ≤ b) (hN : w.heap.size ≤ N) : Turned (fT ++ f) w w2 :=
  ⟨h2.os.trans (h1.os.trans hT.os), h2.tape.trans (h1.tape.trans hT.tape), h2.output.trans (h1.output.trans hT.output), Nat.le_trans hT.size (Nat.le_trans h1.size h2.size), fun k hk hn => by
    have hk1 : k < wr.heap.size := Nat.lt_of_lt_of_le hk hT.size
    rw [h2.block k (Nat.lt_of_lt_of_le hk1 h1.size) (fun hm => by
      rcases hfp k hm with h | h
      · exact hn (List.mem_append_left _ h)
      · omega), h1.block k hk1, hT.block k hk (fun hm => hn (List.mem_append_left _ hm))]⟩
theorem put_fp {w1 w2 : World} {fT f fp fp2 : List Nat} {N : Nat} (hfp : ∀ b ∈ fp, b ∈ fT ∨ N ≤ b) (h2 : ∀ b ∈ fp2, b ∈ fp ∨ b ∈ f ∨ (b = w1.heap.size ∧ b < w2.heap.size)) (hN : N ≤ w1.heap.size) : ∀ b ∈ fp2, b ∈ fT ++ f ∨ N ≤ b := fun b hb => by
  rcases h2 b hb with h | h | h
  · rcases hfp b h with h | h
    · exact .inl (List.mem_append_left _ h)
    · exact .inr h
  · exact .inl (List.mem_append_right _ h)
  · exact .inr (by omega)

end Go.Proofs.YtialakmmifhliaaGreat
