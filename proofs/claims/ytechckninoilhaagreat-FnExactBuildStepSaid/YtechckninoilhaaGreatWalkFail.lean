/-
  The walks of both FailMem: the disk failed, its cache empty, in memory of its own. Condition: the disk weighs at most 2097152.
-/
import Derived.Test.YtechckninoilhaaGreatWalkCopy
import Derived.Test.YtechckninoilhaaGreatWalkCopySpec
namespace Go.Proofs.YtechckninoilhaaGreat
open Go.RowKit

theorem copy_shapes {w w' : World} {e : Ending} {n0 n1 n3 : Nat} {ss : List (List Int)} {cs : List (Int × List Int)} {f : Bool} {bs : List Int} (hl0 : ss.length = n0) (hl1 : cs.length = n1) (hl3 : bs.length = n3)
    (h : ∃ v0 v1 v3 m1 m2, e = .returned (.agg #[v0, v1, .bool f, v3]) ∧ tIntS.Own w' w.heap.size m1 [v3] bs ∧ tIntSS.Own w' m1 m2 [v0] ss ∧ (tWrS 109).Own w' m2 w'.heap.size [v1] cs ∧ m1 ≤ m2 ∧ w.heap.size ≤ m1 ∧ m2 ≤ w'.heap.size ∧ Below w.heap.size w w') :
    ∃ b0 b1 b3 e0 e1 e3 m1 m2, e = .returned (.agg #[.slice b0 n0 e0, .slice b1 n1 e1, .bool f, .slice b3 n3 e3]) ∧ tIntS.Own w' w.heap.size m1 [.slice b3 n3 e3] bs ∧ tIntSS.Own w' m1 m2 [.slice b0 n0 e0] ss ∧ (tWrS 109).Own w' m2 w'.heap.size [.slice b1 n1 e1] cs ∧ m1 ≤ m2 ∧ w.heap.size ≤ m1 ∧ m2 ≤ w'.heap.size ∧ Below w.heap.size w w' := by
  obtain ⟨v0, v1, v3, m1, m2, rfl, o3, o0, o1, r⟩ := h
  obtain ⟨b0, e0, hv0⟩ := row_shape o0.rd
  obtain ⟨b1, e1, hv1⟩ := row_shape o1.rd
  obtain ⟨b3, e3, hv3⟩ := row_shape o3.rd
  rw [hl0] at hv0
  rw [hl1] at hv1
  rw [hl3] at hv3
  subst hv0 hv1 hv3
  exact ⟨b0, b1, b3, e0, e1, e3, m1, m2, rfl, o3, o0, o1, r⟩

set_option maxHeartbeats 1600000 in
theorem implFailMem_any (w : World) (E : TypeId) (a0 a1 a3 : Option Addr) (n0 c0 n1 c1 n3 c3 : Nat) (ss : List (List Int)) (cs : List (Int × List Int)) (f : Bool) (bs : List Int) (h0 : tIntSS.Rd w [.slice a0 n0 c0] ss) (h1 : (tWrS E).Rd w [.slice a1 n1 c1] cs) (h3 : tIntS.Rd w [.slice a3 n3 c3] bs) (hw : wtMem (ss, cs, f, bs) ≤ 2097152) :
    Calls Tryz.prog 35 #[.agg #[.slice a0 n0 c0, .slice a1 n1 c1, .bool f, .slice a3 n3 c3]] w fun e w' => ∃ v0 v1 v3, e = .returned (.agg #[v0, v1, .bool true, v3]) ∧ (tMem 109).Own w' w.heap.size w'.heap.size [v0, v1, .bool true, v3] (ss, [], true, bs) ∧ Below w.heap.size w w' := by
  obtain ⟨hl0, _, hm0⟩ := row_length h0
  obtain ⟨hl1, _, hm1⟩ := row_length h1
  obtain ⟨hl3, _, hm3⟩ := row_length h3
  have hA : Below w.heap.size w ((w.alloc (.cells #[.slice a0 n0 c0, .slice a1 n1 c1, .bool f, .slice a3 n3 c3] 51)).alloc (.cells #[.slice none 0 0, .slice none 0 0, .bool false, .slice none 0 0] 51)) := ((Below.refl _ _).alloc (Nat.le_refl _) _).alloc (by simp) _
  have xr : Box ((w.alloc (.cells #[.slice a0 n0 c0, .slice a1 n1 c1, .bool f, .slice a3 n3 c3] 51)).alloc (.cells #[.slice none 0 0, .slice none 0 0, .bool false, .slice none 0 0] 51)) (w.heap.size + 1) 51 #[.slice none 0 0, .slice none 0 0, .bool false, .slice none 0 0] := by
    have := Box.new (w.alloc (.cells #[.slice a0 n0 c0, .slice a1 n1 c1, .bool f, .slice a3 n3 c3] 51)) 51 #[.slice none 0 0, .slice none 0 0, .bool false, .slice none 0 0]
    rw [show (w.alloc (.cells #[.slice a0 n0 c0, .slice a1 n1 c1, .bool f, .slice a3 n3 c3] 51)).heap.size = w.heap.size + 1 by simp] at this
    exact this
  go_enter Tryz.func35, Tryz.ntmps35
  go_wp2_with fail
  generalize hW : (w.alloc (.cells #[.slice a0 n0 c0, .slice a1 n1 c1, .bool f, .slice a3 n3 c3] 51)).alloc (.cells #[.slice none 0 0, .slice none 0 0, .bool false, .slice none 0 0] 51) = W at hA xr ⊢
  clear hW
  have zr := xr.lt
  refine (copyMem_any _ E _ _ _ _ _ _ _ _ _ ss cs f bs (h0.below hA) (h1.below hA) (h3.below hA) hw).mono ?_
  intro e w1 hc
  obtain ⟨b0, b1, b3, e0, e1, e3, m1, m2, rfl, o3, o0, o1, r1, r2, r3, bb⟩ := copy_shapes hl0 hl1 hl3 hc
  clear hc
  have z1 := bb.size
  have ba : Below w1.heap.size w1 (w1.alloc (.cells #[.slice b0 n0 e0, .slice none 0 0, .bool true, .slice b3 n3 e3] 51)) := (Below.refl _ _).alloc (Nat.le_refl _) _
  have sW : w.heap.size + 2 ≤ W.heap.size := by omega
  have yr := (xr.below bb zr).below ba (by omega)
  have k0 := o0.below ba
  have k3 := o3.below ba
  have kb := hA.trans ((bb.mono (by omega : w.heap.size ≤ W.heap.size)).trans (ba.mono (by omega)))
  obtain ⟨p0, p1, p2, p3⟩ := yr.cells4
  have fz := yr.frozen
  clear o0 o1 o3
  go_wp2
  generalize w1.alloc (.cells #[.slice b0 n0 e0, .slice none 0 0, .bool true, .slice b3 n3 e3] 51) = w2 at ba yr k0 k3 kb p0 p1 p2 p3 fz ⊢
  have z2 := ba.size
  have hbt : But (w.heap.size + 1) (w.heap.size + 2) w2 ((((w2.setCell ⟨w.heap.size + 1, 0, none⟩ (.slice b0 n0 e0)).setCell ⟨w.heap.size + 1, 1, none⟩ (.slice none 0 0)).setCell ⟨w.heap.size + 1, 2, none⟩ (.bool true)).setCell ⟨w.heap.size + 1, 3, none⟩ (.slice b3 n3 e3)) :=
    (((But.setCell (by omega) (by omega) _).trans (But.setCell (by omega) (by omega) _)).trans (But.setCell (by omega) (by omega) _)).trans (But.setCell (by omega) (by omega) _)
  have z3 := hbt.size
  refine bodyPost_ret (v := .agg #[.slice b0 n0 e0, .slice none 0 0, .bool true, .slice b3 n3 e3]) (by simp [results, Tryz.results35, go_sem, p0, p1, p2, p3]) rfl ?_
  refine ⟨_, _, _, rfl, mem_own3 (k0.but hbt (by omega)) (nil_own _ w1.heap.size w1.heap.size) (k3.but hbt (by omega)) (by omega) (by omega) (by omega) (by omega) (by omega) (by omega), Below.andBut kb hbt (by omega)⟩

set_option maxHeartbeats 1600000 in
theorem specFailMem_any (w : World) (E : TypeId) (a0 a1 a3 : Option Addr) (n0 c0 n1 c1 n3 c3 : Nat) (ss : List (List Int)) (cs : List (Int × List Int)) (f : Bool) (bs : List Int) (h0 : tIntSS.Rd w [.slice a0 n0 c0] ss) (h1 : (tWrS E).Rd w [.slice a1 n1 c1] cs) (h3 : tIntS.Rd w [.slice a3 n3 c3] bs) (hw : wtMem (ss, cs, f, bs) ≤ 2097152) :
    Calls Tryz.prog 63 #[.agg #[.slice a0 n0 c0, .slice a1 n1 c1, .bool f, .slice a3 n3 c3]] w fun e w' => ∃ v0 v1 v3, e = .returned (.agg #[v0, v1, .bool true, v3]) ∧ (tMem 109).Own w' w.heap.size w'.heap.size [v0, v1, .bool true, v3] (ss, [], true, bs) ∧ Below w.heap.size w w' := by
  obtain ⟨hl0, _, hm0⟩ := row_length h0
  obtain ⟨hl1, _, hm1⟩ := row_length h1
  obtain ⟨hl3, _, hm3⟩ := row_length h3
  have hA : Below w.heap.size w ((w.alloc (.cells #[.slice a0 n0 c0, .slice a1 n1 c1, .bool f, .slice a3 n3 c3] 51)).alloc (.cells #[.slice none 0 0, .slice none 0 0, .bool false, .slice none 0 0] 51)) := ((Below.refl _ _).alloc (Nat.le_refl _) _).alloc (by simp) _
  have xr : Box ((w.alloc (.cells #[.slice a0 n0 c0, .slice a1 n1 c1, .bool f, .slice a3 n3 c3] 51)).alloc (.cells #[.slice none 0 0, .slice none 0 0, .bool false, .slice none 0 0] 51)) (w.heap.size + 1) 51 #[.slice none 0 0, .slice none 0 0, .bool false, .slice none 0 0] := by
    have := Box.new (w.alloc (.cells #[.slice a0 n0 c0, .slice a1 n1 c1, .bool f, .slice a3 n3 c3] 51)) 51 #[.slice none 0 0, .slice none 0 0, .bool false, .slice none 0 0]
    rw [show (w.alloc (.cells #[.slice a0 n0 c0, .slice a1 n1 c1, .bool f, .slice a3 n3 c3] 51)).heap.size = w.heap.size + 1 by simp] at this
    exact this
  go_enter Tryz.func63, Tryz.ntmps63
  go_wp2_with fail
  generalize hW : (w.alloc (.cells #[.slice a0 n0 c0, .slice a1 n1 c1, .bool f, .slice a3 n3 c3] 51)).alloc (.cells #[.slice none 0 0, .slice none 0 0, .bool false, .slice none 0 0] 51) = W at hA xr ⊢
  clear hW
  have zr := xr.lt
  refine (l2Copy_any _ E _ _ _ _ _ _ _ _ _ ss cs f bs (h0.below hA) (h1.below hA) (h3.below hA) hw).mono ?_
  intro e w1 hc
  obtain ⟨b0, b1, b3, e0, e1, e3, m1, m2, rfl, o3, o0, o1, r1, r2, r3, bb⟩ := copy_shapes hl0 hl1 hl3 hc
  clear hc
  have z1 := bb.size
  have ba : Below w1.heap.size w1 ((w1.alloc (.cells #[.slice b0 n0 e0, .slice (some ⟨w1.heap.size + 1, 0, none⟩) 0 0, .bool true, .slice b3 n3 e3] 51)).alloc (.cells #[] 109)) := ((Below.refl _ _).alloc (Nat.le_refl _) _).alloc (by simp) _
  have sW : w.heap.size + 2 ≤ W.heap.size := by omega
  have yr := (xr.below bb zr).below ba (by omega)
  have k0 := o0.below ba
  have k3 := o3.below ba
  have kb := hA.trans ((bb.mono (by omega : w.heap.size ≤ W.heap.size)).trans (ba.mono (by omega)))
  have kl : (tWrS 109).Own ((w1.alloc (.cells #[.slice b0 n0 e0, .slice (some ⟨w1.heap.size + 1, 0, none⟩) 0 0, .bool true, .slice b3 n3 e3] 51)).alloc (.cells #[] 109)) (w1.heap.size + 1) (w1.heap.size + 2) [.slice (some ⟨w1.heap.size + 1, 0, none⟩) 0 0] [] := by
    have := lit0_mine (t := tWr) (E := 109) (w1.alloc (.cells #[.slice b0 n0 e0, .slice (some ⟨w1.heap.size + 1, 0, none⟩) 0 0, .bool true, .slice b3 n3 e3] 51))
    rw [show (w1.alloc (.cells #[.slice b0 n0 e0, .slice (some ⟨w1.heap.size + 1, 0, none⟩) 0 0, .bool true, .slice b3 n3 e3] 51)).heap.size = w1.heap.size + 1 by simp] at this
    exact this.own (fun b hb => by simp at hb; omega)
  have HZ : Hid (((w1.alloc (.cells #[.slice b0 n0 e0, .slice (some ⟨w1.heap.size + 1, 0, none⟩) 0 0, .bool true, .slice b3 n3 e3] 51)).alloc (.cells #[] 109)).heap.size = w1.heap.size + 2) := by unfold Hid; simp
  obtain ⟨p0, p1, p2, p3⟩ := yr.cells4
  have fz := yr.frozen
  clear o0 o1 o3
  go_wp2
  generalize ((w1.alloc (.cells #[.slice b0 n0 e0, .slice (some ⟨w1.heap.size + 1, 0, none⟩) 0 0, .bool true, .slice b3 n3 e3] 51)).alloc (.cells #[] 109)) = w2 at ba yr k0 k3 kb kl HZ p0 p1 p2 p3 fz ⊢
  have z2 := HZ.out
  have hbt : But (w.heap.size + 1) (w.heap.size + 2) w2 ((((w2.setCell ⟨w.heap.size + 1, 0, none⟩ (.slice b0 n0 e0)).setCell ⟨w.heap.size + 1, 1, none⟩ (.slice (some ⟨w1.heap.size + 1, 0, none⟩) 0 0)).setCell ⟨w.heap.size + 1, 2, none⟩ (.bool true)).setCell ⟨w.heap.size + 1, 3, none⟩ (.slice b3 n3 e3)) :=
    (((But.setCell (by omega) (by omega) _).trans (But.setCell (by omega) (by omega) _)).trans (But.setCell (by omega) (by omega) _)).trans (But.setCell (by omega) (by omega) _)
  have z3 := hbt.size
  refine bodyPost_ret (v := .agg #[.slice b0 n0 e0, .slice (some ⟨w1.heap.size + 1, 0, none⟩) 0 0, .bool true, .slice b3 n3 e3]) (by simp [results, Tryz.results63, go_sem, p0, p1, p2, p3]) rfl ?_
  refine ⟨_, _, _, rfl, mem_own3 (k0.but hbt (by omega)) (kl.but hbt (by omega)) (k3.but hbt (by omega)) (by omega) (by omega) (by omega) (by omega) (by omega) (by omega), Below.andBut kb hbt (by omega)⟩

end Go.Proofs.YtechckninoilhaaGreat
