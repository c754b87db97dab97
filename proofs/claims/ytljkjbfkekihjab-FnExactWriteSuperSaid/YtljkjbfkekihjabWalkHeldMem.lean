/-
  The walk of the laws' helper that asks whether a disk's marks are held. Conditions: at most 2097152 elements in all, the marks from 1 on.
-/
import Derived.Test.YtljkjbfkekihjabWalkMark
namespace Go.Proofs.Ytljkjbfkekihjab
open Go.RowKit

set_option maxHeartbeats 400000 in
theorem heldMem_any (w : World) (E : TypeId) (a0 a1 a3 : Option Addr) (n0 c0 n1 c1 n3 c3 : Nat) (ss : List (List Int)) (cs : List (Int × List Int)) (f : Bool) (bs : List Int) (m0 : tIntSS.Rd w [.slice a0 n0 c0] (markSS 1 ss)) (m1 : (tWrS E).Rd w [.slice a1 n1 c1] (markW (1 + (cntSS ss : Int)) cs)) (m3 : tIntS.Rd w [.slice a3 n3 c3] (marks id (1 + (cntSS ss : Int) + (cntWS cs : Int)) bs.length)) (hw : wtMem (ss, cs, f, bs) ≤ 2097152) :
    Calls Try.prog 11 #[.agg #[.slice a0 n0 c0, .slice a1 n1 c1, .bool f, .slice a3 n3 c3], .int .i64 1] w fun e w' => e = .returned (.int .i64 (1 + cntM ss cs bs)) ∧ Below w.heap.size w w' := by
  have hw0 : wtIntSS ss ≤ 2097152 := by unfold wtMem at hw; simp only at hw; omega
  have hw1 : wtWrS cs ≤ 2097152 := by unfold wtMem at hw; simp only at hw; omega
  have hwt : cntWS cs ≤ wtWrS cs := Nat.le_of_eq (cntWS_wt cs)
  have hwt0 : cntSS ss ≤ wtIntSS ss := by unfold cntSS wtIntSS; omega
  obtain ⟨hn3, _, _⟩ := row_length m3
  have hn3' : bs.length = n3 := by rw [← hn3, marks_length]
  have hw3 : cntSS ss + wtWrS cs + n3 ≤ 2097152 := by unfold wtMem at hw; simp only at hw; omega
  have hA : Below w.heap.size w (w.alloc (.cells #[.slice a0 n0 c0, .slice a1 n1 c1, .bool f, .slice a3 n3 c3] 32)) := (Below.refl _ _).alloc (Nat.le_refl _) _
  have hcell : ∀ j v, (#[Value.slice a0 n0 c0, .slice a1 n1 c1, .bool f, .slice a3 n3 c3])[j]? = some v → (w.alloc (.cells #[.slice a0 n0 c0, .slice a1 n1 c1, .bool f, .slice a3 n3 c3] 32)).cell? ⟨w.heap.size, j, none⟩ = some v := by
    intro j v hv
    rw [cell_of_row _ w.heap.size j _ _ (0, 0) (heap_alloc_new w _)]
    exact hv
  have k0 := hcell 0 _ rfl
  have k1 := hcell 1 _ rfl
  have k3 := hcell 3 _ rfl
  have p0 := m0.below hA
  have p1 := m1.below hA
  have p3 := m3.below hA
  rw [hn3'] at p3
  go_enter Try.func11, Try.ntmps11
  go_wp2_with fail
  generalize hW : w.alloc (.cells #[.slice a0 n0 c0, .slice a1 n1 c1, .bool f, .slice a3 n3 c3] 32) = W at hA k0 k1 k3 p0 p1 p3 ⊢
  clear hW hcell m0 m1 m3
  refine (heldIntSS_any _ _ _ _ ss _ p0 hw0 (by omega) (by omega)).mono ?_
  rintro e w1 ⟨rfl, s1⟩
  have j1 := (s1.cell _).trans k1
  have q1 := p1.same s1
  go_wp2_with fail

  refine (heldWrS_any _ E _ _ _ cs _ q1 hw1 (by omega) (by omega)).mono ?_
  rintro e w2 ⟨rfl, s2⟩
  have j3 := ((s1.trans s2).cell _).trans k3
  have q3 := ints_rd (p3.same (s1.trans s2))
  clear k0 k1 k3 p0 p1 p3 q1 j1
  go_wp2_with fail

  refine (heldIntS_any _ _ _ _ _ q3.1 (by omega) (by omega) (by omega)).mono ?_
  rintro e w3 ⟨rfl, s3⟩
  have HB := hidden (Below.andSame hA ((s1.trans s2).trans s3))
  clear s1 s2 s3 q3 hA j3

  go_wp2
  go_ret
  exact ⟨ret_int (by unfold cntM; rw [hn3']; omega), HB.out⟩

end Go.Proofs.Ytljkjbfkekihjab
