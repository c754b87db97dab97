/-
  The laws' helpers over a disk by what it reads as: equal, marked, held. Condition: it weighs at most 2097152.
-/
import Derived.Test.YtbkkjfgjlapadaaGreatWalkEq
import Derived.Test.YtbkkjfgjlapadaaGreatWalkHeldMem
import Derived.Test.YtbkkjfgjlapadaaGreatBox
namespace Go.Proofs.YtbkkjfgjlapadaaGreat
open Go.RowKit

theorem eqMem_rd (w : World) (E E' : TypeId) (v0 v1 v3 u0 u1 u3 : Value) (f : Bool) (ss : List (List Int)) (cs : List (Int × List Int)) (bs : List Int) (h : (tMem E).Rd w [v0, v1, .bool f, v3] (ss, cs, f, bs)) (k : (tMem E').Rd w [u0, u1, .bool f, u3] (ss, cs, f, bs)) (hw : wtMem (ss, cs, f, bs) ≤ 2097152) :
    Calls Tryz.prog 231 #[.agg #[v0, v1, .bool f, v3], .agg #[u0, u1, .bool f, u3]] w fun e w' => e = .returned (.bool true) ∧ Below w.heap.size w w' := by
  obtain ⟨a0, c0, a1, c1, a3, c3, rfl, rfl, _, rfl, h0, h1, h3⟩ := mem_rd h
  obtain ⟨b0, e0, b1, e1, b3, e3, rfl, rfl, _, rfl, k0, k1, k3⟩ := mem_rd k
  exact eqMem_same w E E' _ _ _ _ _ _ _ _ _ _ _ _ _ _ _ ss cs f bs h0 h1 h3 k0 k1 k3 hw

theorem cntM_pos (ss : List (List Int)) (cs : List (Int × List Int)) (bs : List Int) : 0 ≤ cntM ss cs bs := by unfold cntM; omega

theorem mem_letters {w : World} {E : TypeId} {lo hi : Nat} {v0 v1 v3 : Value} {f : Bool} {d : (tMem E).D} (h : (tMem E).Own w lo hi [v0, v1, .bool f, v3] d) : ∃ a0 l0 c0 a1 l1 c1 a3 l3 c3, v0 = .slice a0 l0 c0 ∧ v1 = .slice a1 l1 c1 ∧ v3 = .slice a3 l3 c3 := by
  obtain ⟨a0, c0, a1, c1, a3, c3, h0, h1, _, h3, _⟩ := mem_rd h.rd
  exact ⟨a0, _, c0, a1, _, c1, a3, _, c3, h0, h1, h3⟩

end Go.Proofs.YtbkkjfgjlapadaaGreat
