/-
  The walk of the program's settle: the disk with the last write of each sector put there, its cache empty, in memory of its own. Conditions: the disk and the writes weigh at most 2097152 each, the disk has at most 20 sectors, each write is of a sector 0 .. 20.
-/
import Derived.Test.YtljkjbfkekihjabWalkFail
import Derived.Test.YtljkjbfkekihjabStore
import Derived.Test.YtljkjbfkekihjabFlush
import Derived.WideLaws
namespace Go.Proofs.Ytljkjbfkekihjab
open Go.RowKit Go.Maps

/-- What is still in the map: the writes of the sectors from j on. -/
def RestOk (w : World) (ks : List (Int × List Int)) (j : Nat) (D : DataW Value) : Prop :=
  ∀ q : Nat, j ≤ q → (lastW ks (q : Int) = none → Maps.has D (.int .i64 q) = false) ∧ ∀ zs, lastW ks (q : Int) = some zs → Maps.has D (.int .i64 q) = true ∧ ∃ a cap, (∀ z, D.atKey (.int .i64 q) z = .held (.agg #[.int .i64 q, .slice a zs.length cap])) ∧ tIntS.Rd w [.slice a zs.length cap] zs
theorem LastOk.rest {w : World} {ks : List (Int × List Int)} {D : DataW Value} (h : LastOk w ks D) : RestOk w ks 0 D := fun q _ => ⟨(h q).1, fun zs hz => by
  obtain ⟨h1, a, n, cap, h2, h3⟩ := (h q).2 zs hz
  obtain ⟨hl, _, _⟩ := row_length h3
  subst hl
  exact ⟨h1, a, cap, h2, h3⟩⟩
theorem RestOk.next {w : World} {ks : List (Int × List Int)} {j : Nat} {D : DataW Value} (h : RestOk w ks j D) : RestOk w ks (j + 1) D := fun q hq => h q (by omega)
theorem RestOk.del {w : World} {ks : List (Int × List Int)} {j : Nat} {D : DataW Value} (h : RestOk w ks j D) : RestOk w ks (j + 1) (D.del (.int .i64 j)) := by
  intro q hq
  have hne : (Lit.int .i64 (q : Int)) ≠ Lit.int .i64 (j : Int) := fun e => by simp at e; omega
  obtain ⟨h1, h2⟩ := h q (by omega)
  refine ⟨fun e => by rw [has_del_other hne]; exact h1 e, fun zs e => ?_⟩
  obtain ⟨h3, a, cap, h4, h5⟩ := h2 zs e
  exact ⟨by rw [has_del_other hne]; exact h3, a, cap, fun z => by rw [atKey_del_other hne]; exact h4 z, h5⟩
theorem RestOk.empty {w : World} {ks : List (Int × List Int)} {j : Nat} {D : DataW Value} (h : RestOk w ks j D) (hD : IsMap D) (hz : Maps.size D = 0) : ∀ q : Nat, j ≤ q → lastW ks (q : Int) = none := by
  intro q hq
  cases hl : lastW ks (q : Int) with
  | none => rfl
  | some zs =>
    have h1 := ((h q hq).2 zs hl).1
    obtain ⟨es, rfl⟩ := hD
    have h2 : es = [] := List.eq_nil_of_length_eq_zero hz
    subst h2
    simp [Maps.has] at h1
theorem Below.grows {w w' : World} (h : Below w.heap.size w w') : w.grownBy w' none := ⟨h.os, h.tape, h.output, h.size, fun k hk _ => h.block k hk⟩

end Go.Proofs.Ytljkjbfkekihjab
