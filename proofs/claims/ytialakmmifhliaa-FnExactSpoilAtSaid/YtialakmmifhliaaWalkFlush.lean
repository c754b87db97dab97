/-
  The walk of the program's FlushMem: what is written is in its sector, the cache empty, in memory of its own; what is not MemOk, or failed, as it was. Condition: the disk weighs at most 2097152.
-/
import Derived.Test.YtialakmmifhliaaWalkSettle
import Derived.Test.YtialakmmifhliaaWalkImplMemOk
namespace Go.Proofs.Ytialakmmifhliaa
open Go.RowKit

/-- The sectors and the cache behind a flush. -/
def flSS (ss : List (List Int)) (cs : List (Int × List Int)) (f : Bool) (bs : List Int) : List (List Int) := if (memB ss cs bs && !f) = true then flushD ss cs else ss
def flCS (ss : List (List Int)) (cs : List (Int × List Int)) (f : Bool) (bs : List Int) : List (Int × List Int) := if (memB ss cs bs && !f) = true then [] else cs
theorem mem_slices {w : World} {E : TypeId} {lo hi : Nat} {v0 v1 v3 : Value} {f : Bool} {d : (tMem E).D} (h : (tMem E).Own w lo hi [v0, v1, .bool f, v3] d) : ∃ a0 l0 c0 a1 l1 c1 a3 l3 c3, v0 = .slice a0 l0 c0 ∧ v1 = .slice a1 l1 c1 ∧ v3 = .slice a3 l3 c3 := by
  obtain ⟨a0, c0, a1, c1, a3, c3, h0, h1, _, h3, _⟩ := mem_rd h.rd
  exact ⟨a0, _, c0, a1, _, c1, a3, _, c3, h0, h1, h3⟩

end Go.Proofs.Ytialakmmifhliaa
