/-
  Plain lemmas on a disk's lists at an index, and on what a fall leaves. No condition.
-/
import Derived.Test.YtmkiljflkndmoaaWalkDrawMem
namespace Go.Proofs.Ytmkiljflkndmoaa
open Go.RowKit

/-- A sector at an index. -/
theorem sec_at {w : World} {a : Option Addr} {n cap j : Nat} {d : List (List Int)} (h : tIntSS.Rd w [.slice a n cap] d) (hj : j < n) :
    ∃ b off x av cv, a = some ⟨b, off, none⟩ ∧ d[j]? = some x ∧ w.cell? ⟨b, off + j, none⟩ = some (.slice av x.length cv) ∧ Reads .i64 w av x := by
  have hl := (row_length h).1
  rcases rows_at rfl h with h0 | ⟨b, off, ha, _, hc⟩
  · omega
  · have hx := List.getElem?_eq_getElem (show j < d.length by omega)
    obtain ⟨v, hv, hr⟩ := hc j _ hx
    obtain ⟨av, cv, rfl⟩ := row_shape hr
    exact ⟨b, off, _, av, cv, ha, hx, hv, (ints_rd hr).1⟩

/-- A write at an index. -/
theorem wr_at {E : TypeId} {w : World} {a : Option Addr} {n cap j : Nat} {d : List (Int × List Int)} (h : (tWrS E).Rd w [.slice a n cap] d) (hj : j < n) :
    ∃ b off x0 x1 av cv, a = some ⟨b, off, none⟩ ∧ d[j]? = some (x0, x1) ∧ w.cell? ⟨b, off + j * 2, none⟩ = some (.int .i64 x0) ∧ w.cell? ⟨b, off + j * 2 + 1, none⟩ = some (.slice av x1.length cv) ∧ Reads .i64 w av x1 := by
  have hl := (row_length h).1
  rcases pairs_at rfl h with h0 | ⟨b, off, ha, _, hc⟩
  · omega
  · have hx := List.getElem?_eq_getElem (show j < d.length by omega)
    obtain ⟨v0, v1, hv0, hv1, hr⟩ := hc j _ hx
    obtain ⟨rfl, hr1⟩ := wr_rd hr
    obtain ⟨av, cv, rfl⟩ := row_shape hr1
    exact ⟨b, off, d[j].1, d[j].2, av, cv, ha, hx, hv0, hv1, (ints_rd hr1).1⟩

theorem fall_ok {ss : List (List Int)} {cs : List (Int × List Int)} {bs : List Int} {k : Int} (hM : memB ss cs bs = true) : memB (faSS ss cs bs k) (faCS ss cs bs) bs = true := by
  unfold faSS faCS
  rw [if_pos hM, if_pos hM]
  refine memB_flush hM _ (fun x hx => ?_)
  unfold keptD at hx
  obtain ⟨i, hi, rfl⟩ := List.mem_map.1 hx
  have h1 := List.mem_range.1 (List.mem_filter.1 hi).1
  rw [List.getD_eq_getElem?_getD, List.getElem?_eq_getElem (by omega)]
  exact List.getElem_mem _

theorem flush_small {ss : List (List Int)} {cs : List (Int × List Int)} {bs : List Int} (hM : memB ss cs bs = true) : ∀ x ∈ flSS ss cs false bs, x.length ≤ 12 := by
  unfold flSS
  rw [hM]
  exact (mem_small (memB_flush hM cs (fun _ h => h))).1

/-- Whether a sector is one of those that it may be, of the first k writes. -/
def mayB (sx sm : List Int) (i : Int) (cs : List (Int × List Int)) (k : Nat) (b : Bool) : Prop := (sx = sm ∨ ∃ q, q < k ∧ cs[q]? = some (i, sx)) → b = true
theorem mayB_true {sx sm : List Int} {i : Int} {cs : List (Int × List Int)} {k : Nat} : mayB sx sm i cs k true := fun _ => rfl
theorem mayB_start {sx sm : List Int} {i : Int} {cs : List (Int × List Int)} : mayB sx sm i cs 0 (decide (sx = sm)) := by
  rintro (h | ⟨q, hq, _⟩)
  · simpa using h
  · omega
theorem mayB_no {sx sm : List Int} {i x0 : Int} {x1 : List Int} {cs : List (Int × List Int)} {k : Nat} (h : mayB sx sm i cs k false) (hk : cs[k]? = some (x0, x1)) (hne : x0 ≠ i ∨ sx ≠ x1) : mayB sx sm i cs (k + 1) false := by
  rintro (h1 | ⟨q, hq, h1⟩)
  · exact h (.inl h1)
  · by_cases hqk : q < k
    · exact h (.inr ⟨q, hqk, h1⟩)
    · have : q = k := by omega
      subst this
      rw [hk] at h1
      simp only [Option.some.injEq, Prod.mk.injEq] at h1
      rcases hne with e | e
      · exact absurd h1.1 e
      · exact absurd h1.2.symm e
theorem mayB_end {sx sm : List Int} {i : Nat} {cs : List (Int × List Int)} {k : Nat} {b : Bool} {ss SX : List (List Int)} (h : mayB sx sm i cs k b) (hk : cs.length ≤ k) (hsx : SX[i]? = some sx) (hsm : ss[i]? = some sm) (hS : SX[i]? = ss[i]? ∨ ∃ (q : Nat) (s : List Int), cs[q]? = some ((i : Int), s) ∧ SX[i]? = some s) : b = true := by
  apply h
  rcases hS with e | ⟨q, s, h1, h2⟩
  · rw [hsx, hsm] at e
    exact .inl (by simpa using e)
  · rw [hsx] at h2
    simp at h2
    subst h2
    exact .inr ⟨q, by have := (List.getElem?_eq_some_iff.1 h1).1; omega, h1⟩

end Go.Proofs.Ytmkiljflkndmoaa
