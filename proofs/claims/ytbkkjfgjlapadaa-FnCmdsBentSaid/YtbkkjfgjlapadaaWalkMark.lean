/-
  The walks of the laws' helpers that mark slices of slices of int, writes and disks, and ask whether the marks are held. Conditions: at most 2097152 elements in all, the marks between 0 and 16777216.
-/
import Derived.Test.YtbkkjfgjlapadaaWalkTo
import Derived.Test.YtbkkjfgjlapadaaTurn
import Derived.Test.YtbkkjfgjlapadaaWalkMarksInt
namespace Go.Proofs.Ytbkkjfgjlapadaa
open Go.RowKit

/-- A slice of numbers of one's own, by its one block. -/
theorem ints_ow {w : World} {v : Value} {zs : List Int} {f : List Nat} (h : tIntS.ow w [v] zs f) : (v = .slice none 0 0 ∧ zs = [] ∧ f = []) ∨ ∃ g cap, v = .slice (some ⟨g, 0, none⟩) zs.length cap ∧ f = [g] ∧ Go.Proofs.Ytbkkjfgjlapadaa.Own .i64 3 w g (g + 1) v zs := by
  rcases h with ⟨h1, h2, h3⟩ | ⟨b, cap, cur, fps, h1, h2, h3, h4, h5, h6, h7, h8⟩
  · exact .inl ⟨by simpa using h1, h2, h3⟩
  · have hv : v = .slice (some ⟨b, 0, none⟩) zs.length cap := by simpa using h1
    have hfl : fps.flatten = [] := by
      rw [List.flatten_eq_nil_iff]
      intro f' hf'
      obtain ⟨i, hi⟩ := List.mem_iff_getElem?.1 hf'
      have hil : i < zs.length := by rw [← h7]; exact (List.getElem?_eq_some_iff.1 hi).1
      obtain ⟨f2, hf2, _, h10⟩ := h8 i _ (List.getElem?_eq_getElem hil)
      rw [hi] at hf2
      simp at hf2
      rw [hf2]
      exact h10
    have h5' : cur.size = cap * 1 := h5
    refine .inr ⟨b, cap, hv, by rw [h6, hfl], ⟨by simp, .inr ⟨b, cap, cur, hv, Nat.le_refl _, h4, h2, by unfold maxLen; exact h3, h5', ?_⟩⟩, fun g hg => by rw [hv] at hg; simp [Value.ownBlock] at hg; omega⟩
    apply List.ext_getElem?
    intro i
    rw [List.getElem?_take, List.getElem?_map]
    by_cases hi : i < zs.length
    · obtain ⟨f2, _, h9, _⟩ := h8 i _ (List.getElem?_eq_getElem hi)
      have h9' : (cur.toList.drop (i * 1)).take 1 = [.int .i64 zs[i]] := h9
      have : ((cur.toList.drop (i * 1)).take 1)[0]? = some (.int .i64 zs[i]) := by rw [h9']; rfl
      rw [List.getElem?_take, if_pos (by omega), List.getElem?_drop] at this
      rw [if_pos (by omega), List.getElem?_eq_getElem hi]
      simpa using this
    · rw [if_neg (by omega), List.getElem?_eq_none (by omega)]
      rfl

theorem ow_ints {w : World} {g n cap : Nat} {zs : List Int} (h : Go.Proofs.Ytbkkjfgjlapadaa.Own .i64 3 w g (g + 1) (.slice (some ⟨g, 0, none⟩) n cap) zs) : tIntS.ow w [.slice (some ⟨g, 0, none⟩) n cap] zs [g] := by
  have hl := h.length
  obtain ⟨fp, ho, _, hr⟩ := own_ints h.1
  rcases ho with ⟨h1, _⟩ | ⟨b, cap', cur, fps, h1, h2, h3, h4, h5, h6, h7, h8⟩
  · simp at h1
  · simp only [List.cons.injEq, Value.slice.injEq, Option.some.injEq, Addr.mk.injEq, and_true] at h1
    obtain ⟨rfl, _, rfl⟩ := h1
    refine .inr ⟨g, cap, cur, zs.map fun _ => [], by rw [hl], h2, h3, h4, h5, by simp, by simp, fun i x hx => ?_⟩
    obtain ⟨f2, _, h9⟩ := h8 i x hx
    exact ⟨[], by rw [List.getElem?_map, hx]; rfl, h9.1, rfl⟩

def markI (k : Int) (x : List Int) : List Int := marks id k x.length
def markSS (k0 : Int) (d : List (List Int)) : List (List Int) := markL List.length markI k0 d
def cntSS (d : List (List Int)) : Nat := sumL (d.map List.length)

def cntW (x : Int × List Int) : Nat := 1 + x.2.length
def markW1 (k : Int) (x : Int × List Int) : Int × List Int := (k, marks id (k + 1) x.2.length)
def markW (k0 : Int) (d : List (Int × List Int)) : List (Int × List Int) := markL cntW markW1 k0 d
def cntWS (d : List (Int × List Int)) : Nat := sumL (d.map cntW)

theorem cntWS_wt (d : List (Int × List Int)) : cntWS d = wtWrS d := by
  unfold cntWS wtWrS
  induction d with
  | nil => rfl
  | cons x d ih =>
    simp only [List.map_cons, sumL, List.foldr_cons, List.length_cons] at *
    unfold cntW at *
    omega

/-- The marks of a disk. -/
def markM (k0 : Int) (ss : List (List Int)) (cs : List (Int × List Int)) (f : Bool) (bs : List Int) : List (List Int) × List (Int × List Int) × Bool × List Int :=
  (markSS k0 ss, markW (k0 + (cntSS ss : Int)) cs, f, marks id (k0 + (cntSS ss : Int) + (cntWS cs : Int)) bs.length)
def cntM (ss : List (List Int)) (cs : List (Int × List Int)) (bs : List Int) : Int := (cntSS ss : Int) + (cntWS cs : Int) + (bs.length : Int)

end Go.Proofs.Ytbkkjfgjlapadaa
