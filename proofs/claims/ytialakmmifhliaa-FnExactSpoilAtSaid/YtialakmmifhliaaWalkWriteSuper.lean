/-
  Both WriteSuper (the program's and the specification's) answer as the definitions here say. Condition: the disk weighs at most 2097152.
-/
import Derived.Test.YtialakmmifhliaaSupPlace
import Derived.Test.YtialakmmifhliaaWalkWriteSpec
import Derived.Test.YtialakmmifhliaaWalkCopySpec
namespace Go.Proofs.Ytialakmmifhliaa
open Go.RowKit

/-- What waits, and what is bad, behind a Super that is written. -/
def wsCS (ss : List (List Int)) (cs : List (Int × List Int)) (f : Bool) (bs : List Int) (x : Sup) : List (Int × List Int) := if supB x = true then wrCS ss cs f bs (x.gen % 2) (putD x) else cs
def wsBS (ss : List (List Int)) (cs : List (Int × List Int)) (f : Bool) (bs : List Int) (x : Sup) : List Int := if supB x = true then wrBS ss cs f bs (x.gen % 2) (putD x) else bs
/-- A block's first four cells set. -/
def set4 (w : World) (B : Nat) (v0 v1 v2 v3 : Value) : World := (((w.setCell ⟨B, 0, none⟩ v0).setCell ⟨B, 1, none⟩ v1).setCell ⟨B, 2, none⟩ v2).setCell ⟨B, 3, none⟩ v3
theorem set4_but (w : World) (B : Nat) (v0 v1 v2 v3 : Value) : But B (B + 1) w (set4 w B v0 v1 v2 v3) := by
  unfold set4
  exact (((But.setCell (by omega) (by omega) _).trans (But.setCell (by omega) (by omega) _)).trans (But.setCell (by omega) (by omega) _)).trans (But.setCell (by omega) (by omega) _)
theorem set4_box {w : World} {B : Nat} {T : TypeId} {x0 x1 x2 x3 : Value} (h : Box w B T #[x0, x1, x2, x3]) (v0 v1 v2 v3 : Value) : Box (set4 w B v0 v1 v2 v3) B T #[v0, v1, v2, v3] := by
  unfold set4
  have := (((h.set 0 v0).set 1 v1).set 2 v2).set 3 v3
  simpa using this
theorem mem_letters2 {w : World} {E : TypeId} {lo hi : Nat} {v0 v1 v3 : Value} {f : Bool} {d : (tMem E).D} (h : (tMem E).Own w lo hi [v0, v1, .bool f, v3] d) : ∃ a0 l0 c0 a1 l1 c1 a3 l3 c3, v0 = .slice a0 l0 c0 ∧ v1 = .slice a1 l1 c1 ∧ v3 = .slice a3 l3 c3 := by
  obtain ⟨a0, c0, a1, c1, a3, c3, h0, h1, _, h3, _⟩ := mem_rd h.rd
  exact ⟨a0, _, c0, a1, _, c1, a3, _, c3, h0, h1, h3⟩
theorem putD_le2 (x : Sup) : (putD x).length ≤ 9 := by
  unfold putD
  split <;> simp

end Go.Proofs.Ytialakmmifhliaa
