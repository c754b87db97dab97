/-
  The walk of the program's FlushMem: what is written is in its sector, the cache empty, in memory of its own; what is not MemOk, or failed, as it was. Condition: the disk weighs at most 2097152.
-/
import Derived.Test.YtgjldmjlbhkgbaaWalkSettle
import Derived.Test.YtgjldmjlbhkgbaaWalkImplMemOk
namespace Go.Proofs.Ytgjldmjlbhkgbaa
open Go.RowKit

/-- The sectors and the cache behind a flush. -/
def flSS (ss : List (List Int)) (cs : List (Int × List Int)) (f : Bool) (bs : List Int) : List (List Int) := if (memB ss cs bs && !f) = true then flushD ss cs else ss
def flCS (ss : List (List Int)) (cs : List (Int × List Int)) (f : Bool) (bs : List Int) : List (Int × List Int) := if (memB ss cs bs && !f) = true then [] else cs
theorem mem_slices {w : World} {E : TypeId} {lo hi : Nat} {v0 v1 v3 : Value} {f : Bool} {d : (tMem E).D} (h : (tMem E).Own w lo hi [v0, v1, .bool f, v3] d) : ∃ a0 l0 c0 a1 l1 c1 a3 l3 c3, v0 = .slice a0 l0 c0 ∧ v1 = .slice a1 l1 c1 ∧ v3 = .slice a3 l3 c3 := by
  obtain ⟨a0, c0, a1, c1, a3, c3, h0, h1, _, h3, _⟩ := mem_rd h.rd
  exact ⟨a0, _, c0, a1, _, c1, a3, _, c3, h0, h1, h3⟩

set_option maxHeartbeats 3200000 in
theorem implFlushMem_any (w : World) (E : TypeId) (a0 a1 a3 : Option Addr) (n0 c0 n1 c1 n3 c3 : Nat) (ss : List (List Int)) (cs : List (Int × List Int)) (f : Bool) (bs : List Int) (h0 : tIntSS.Rd w [.slice a0 n0 c0] ss) (h1 : (tWrS E).Rd w [.slice a1 n1 c1] cs) (h3 : tIntS.Rd w [.slice a3 n3 c3] bs) (hw : wtMem (ss, cs, f, bs) ≤ 2097152) :
    Calls Try.prog 55 #[.agg #[.slice a0 n0 c0, .slice a1 n1 c1, .bool f, .slice a3 n3 c3]] w fun e w' => ∃ v0 v1 v3, e = .returned (.agg #[v0, v1, .bool f, v3]) ∧ (tMem 100).Own w' w.heap.size w'.heap.size [v0, v1, .bool f, v3] (flSS ss cs f bs, flCS ss cs f bs, f, bs) ∧ Below w.heap.size w w' := by
  obtain ⟨hl0, _, hm0⟩ := row_length h0
  obtain ⟨hl1, _, hm1⟩ := row_length h1
  obtain ⟨hl3, _, hm3⟩ := row_length h3
  have hwc : wtWrS cs ≤ 2097152 := by unfold wtMem at hw; simp only at hw; omega
  by_cases hM : memB ss cs bs = true
  · have hn20 : n0 ≤ 20 := by have := mem_secs hM; omega
    have hks := mem_writes hM
    by_cases hf : f = true
    · subst hf
      have e1 : flSS ss cs true bs = ss := by unfold flSS; simp
      have e2 : flCS ss cs true bs = cs := by unfold flCS; simp
      rw [e1, e2]
      clear e1 e2
      have hA : Below w.heap.size w ((w.alloc (.cells #[.slice a0 n0 c0, .slice a1 n1 c1, .bool true, .slice a3 n3 c3] 57)).alloc (.cells #[.slice none 0 0, .slice none 0 0, .bool false, .slice none 0 0] 57)) := ((Below.refl _ _).alloc (Nat.le_refl _) _).alloc (by simp) _
      have xm : Box ((w.alloc (.cells #[.slice a0 n0 c0, .slice a1 n1 c1, .bool true, .slice a3 n3 c3] 57)).alloc (.cells #[.slice none 0 0, .slice none 0 0, .bool false, .slice none 0 0] 57)) w.heap.size 57 #[.slice a0 n0 c0, .slice a1 n1 c1, .bool true, .slice a3 n3 c3] := (Box.new w _ _).alloc _
      have xr : Box ((w.alloc (.cells #[.slice a0 n0 c0, .slice a1 n1 c1, .bool true, .slice a3 n3 c3] 57)).alloc (.cells #[.slice none 0 0, .slice none 0 0, .bool false, .slice none 0 0] 57)) (w.heap.size + 1) 57 #[.slice none 0 0, .slice none 0 0, .bool false, .slice none 0 0] := by
        have := Box.new (w.alloc (.cells #[.slice a0 n0 c0, .slice a1 n1 c1, .bool true, .slice a3 n3 c3] 57)) 57 #[.slice none 0 0, .slice none 0 0, .bool false, .slice none 0 0]
        rw [show (w.alloc (.cells #[.slice a0 n0 c0, .slice a1 n1 c1, .bool true, .slice a3 n3 c3] 57)).heap.size = w.heap.size + 1 by simp] at this
        exact this
      go_enter Try.func55, Try.ntmps55
      go_wp2_with fail
      generalize hW : (w.alloc (.cells #[.slice a0 n0 c0, .slice a1 n1 c1, .bool true, .slice a3 n3 c3] 57)).alloc (.cells #[.slice none 0 0, .slice none 0 0, .bool false, .slice none 0 0] 57) = W at hA xm xr ⊢
      clear hW
      have zr := xr.lt
      obtain ⟨q0, q1, q2, q3⟩ := xm.cells4
      have XM := hidden xm
      have XR := hidden xr
      clear xm xr
      refine (implMemOk_any _ E _ _ _ _ _ _ _ _ _ ss cs true bs (h0.below hA) (h1.below hA) (h3.below hA) hw).mono ?_
      rintro e w1 ⟨rfl, b1⟩
      have z1 := b1.size
      have XM1 := hidden (XM.out.below b1 (by omega))
      have XR1 := hidden (XR.out.below b1 (by omega))
      have B1 := hidden (hA.trans (b1.mono (by omega)))
      clear q0 q1 q2 q3 XM XR b1 hA
      obtain ⟨q0, q1, q2, q3⟩ := XM1.out.cells4
      go_wp2_with fail
      refine (copyMem_any _ E _ _ _ _ _ _ _ _ _ ss cs true bs (h0.below B1.out) (h1.below B1.out) (h3.below B1.out) hw).mono ?_
      intro e w2 hc
      obtain ⟨b0, b1, b3, e0, e1, e3, m1, m2, rfl, o3, o0, o1, r1, r2, r3, bb⟩ := copy_shapes hl0 hl1 hl3 hc
      clear hc
      have z2 := bb.size
      clear q0 q1 q2 q3
      obtain ⟨p0, p1, p2, p3⟩ := (XR1.out.below bb (by omega)).cells4
      have fz := (XR1.out.below bb (by omega)).frozen
      have KB := B1.out.trans (bb.mono (by omega))
      have hbt : But (w.heap.size + 1) (w.heap.size + 2) w2 ((((w2.setCell ⟨w.heap.size + 1, 0, none⟩ (.slice b0 n0 e0)).setCell ⟨w.heap.size + 1, 1, none⟩ (.slice b1 n1 e1)).setCell ⟨w.heap.size + 1, 2, none⟩ (.bool true)).setCell ⟨w.heap.size + 1, 3, none⟩ (.slice b3 n3 e3)) :=
        (((But.setCell (by omega) (by omega) _).trans (But.setCell (by omega) (by omega) _)).trans (But.setCell (by omega) (by omega) _)).trans (But.setCell (by omega) (by omega) _)
      have z9 := hbt.size
      have FIN : Hid ((tMem 100).Own ((((w2.setCell ⟨w.heap.size + 1, 0, none⟩ (.slice b0 n0 e0)).setCell ⟨w.heap.size + 1, 1, none⟩ (.slice b1 n1 e1)).setCell ⟨w.heap.size + 1, 2, none⟩ (.bool true)).setCell ⟨w.heap.size + 1, 3, none⟩ (.slice b3 n3 e3)) w.heap.size ((((w2.setCell ⟨w.heap.size + 1, 0, none⟩ (.slice b0 n0 e0)).setCell ⟨w.heap.size + 1, 1, none⟩ (.slice b1 n1 e1)).setCell ⟨w.heap.size + 1, 2, none⟩ (.bool true)).setCell ⟨w.heap.size + 1, 3, none⟩ (.slice b3 n3 e3)).heap.size [.slice b0 n0 e0, .slice b1 n1 e1, .bool true, .slice b3 n3 e3] (ss, cs, true, bs)) := mem_own3 (o0.but hbt (by omega)) (o1.but hbt (by omega)) (o3.but hbt (by omega)) (by omega) (by omega) (by omega) (by omega) (by omega) (by omega)
      have FB := hidden (Below.andBut KB hbt (by omega))
      clear hbt KB bb o0 o1 o3
      go_wp2
      refine bodyPost_ret (v := .agg #[.slice b0 n0 e0, .slice b1 n1 e1, .bool true, .slice b3 n3 e3]) (by simp [results, Try.results55, go_sem, p0, p1, p2, p3]) rfl ?_
      exact ⟨_, _, _, rfl, FIN.out, FB.out⟩
    · have hf : f = false := by simpa using hf
      subst hf
      have e1 : flSS ss cs false bs = flushD ss cs := by unfold flSS; simp [hM]
      have e2 : flCS ss cs false bs = [] := by unfold flCS; simp [hM]
      rw [e1, e2]
      clear e1 e2
      have hA : Below w.heap.size w ((w.alloc (.cells #[.slice a0 n0 c0, .slice a1 n1 c1, .bool false, .slice a3 n3 c3] 57)).alloc (.cells #[.slice none 0 0, .slice none 0 0, .bool false, .slice none 0 0] 57)) := ((Below.refl _ _).alloc (Nat.le_refl _) _).alloc (by simp) _
      have xm : Box ((w.alloc (.cells #[.slice a0 n0 c0, .slice a1 n1 c1, .bool false, .slice a3 n3 c3] 57)).alloc (.cells #[.slice none 0 0, .slice none 0 0, .bool false, .slice none 0 0] 57)) w.heap.size 57 #[.slice a0 n0 c0, .slice a1 n1 c1, .bool false, .slice a3 n3 c3] := (Box.new w _ _).alloc _
      have xr : Box ((w.alloc (.cells #[.slice a0 n0 c0, .slice a1 n1 c1, .bool false, .slice a3 n3 c3] 57)).alloc (.cells #[.slice none 0 0, .slice none 0 0, .bool false, .slice none 0 0] 57)) (w.heap.size + 1) 57 #[.slice none 0 0, .slice none 0 0, .bool false, .slice none 0 0] := by
        have := Box.new (w.alloc (.cells #[.slice a0 n0 c0, .slice a1 n1 c1, .bool false, .slice a3 n3 c3] 57)) 57 #[.slice none 0 0, .slice none 0 0, .bool false, .slice none 0 0]
        rw [show (w.alloc (.cells #[.slice a0 n0 c0, .slice a1 n1 c1, .bool false, .slice a3 n3 c3] 57)).heap.size = w.heap.size + 1 by simp] at this
        exact this
      go_enter Try.func55, Try.ntmps55
      go_wp2_with fail
      generalize hW : (w.alloc (.cells #[.slice a0 n0 c0, .slice a1 n1 c1, .bool false, .slice a3 n3 c3] 57)).alloc (.cells #[.slice none 0 0, .slice none 0 0, .bool false, .slice none 0 0] 57) = W at hA xm xr ⊢
      clear hW
      have zr := xr.lt
      obtain ⟨q0, q1, q2, q3⟩ := xm.cells4
      have XM := hidden xm
      have XR := hidden xr
      clear xm xr
      refine (implMemOk_any _ E _ _ _ _ _ _ _ _ _ ss cs false bs (h0.below hA) (h1.below hA) (h3.below hA) hw).mono ?_
      rintro e w1 ⟨rfl, b1⟩
      have z1 := b1.size
      have XM1 := hidden (XM.out.below b1 (by omega))
      have XR1 := hidden (XR.out.below b1 (by omega))
      have B1 := hidden (hA.trans (b1.mono (by omega)))
      clear q0 q1 q2 q3 XM XR b1 hA
      obtain ⟨q0, q1, q2, q3⟩ := XM1.out.cells4
      go_wp2_with fail
      refine (settle_any _ E E _ _ _ _ _ _ _ _ _ _ _ _ ss cs false bs (h0.below B1.out) (h1.below B1.out) (h3.below B1.out) hw cs (h1.below B1.out) hwc hks hn20).mono ?_
      rintro e w2 ⟨v0, v1, v3, rfl, o2, bb⟩
      obtain ⟨d0, l0, e0, d1, l1, e1, d3, l3, e3, hv0, hv1, hv3⟩ := mem_slices o2
      subst hv0 hv1 hv3
      have z2 := bb.size
      clear q0 q1 q2 q3
      obtain ⟨p0, p1, p2, p3⟩ := (XR1.out.below bb (by omega)).cells4
      have fz := (XR1.out.below bb (by omega)).frozen
      have KB := B1.out.trans (bb.mono (by omega))
      have hbt : But (w.heap.size + 1) (w.heap.size + 2) w2 ((((w2.setCell ⟨w.heap.size + 1, 0, none⟩ (.slice d0 l0 e0)).setCell ⟨w.heap.size + 1, 1, none⟩ (.slice d1 l1 e1)).setCell ⟨w.heap.size + 1, 2, none⟩ (.bool false)).setCell ⟨w.heap.size + 1, 3, none⟩ (.slice d3 l3 e3)) :=
        (((But.setCell (by omega) (by omega) _).trans (But.setCell (by omega) (by omega) _)).trans (But.setCell (by omega) (by omega) _)).trans (But.setCell (by omega) (by omega) _)
      have z9 := hbt.size
      have FIN : Hid ((tMem 100).Own ((((w2.setCell ⟨w.heap.size + 1, 0, none⟩ (.slice d0 l0 e0)).setCell ⟨w.heap.size + 1, 1, none⟩ (.slice d1 l1 e1)).setCell ⟨w.heap.size + 1, 2, none⟩ (.bool false)).setCell ⟨w.heap.size + 1, 3, none⟩ (.slice d3 l3 e3)) w.heap.size ((((w2.setCell ⟨w.heap.size + 1, 0, none⟩ (.slice d0 l0 e0)).setCell ⟨w.heap.size + 1, 1, none⟩ (.slice d1 l1 e1)).setCell ⟨w.heap.size + 1, 2, none⟩ (.bool false)).setCell ⟨w.heap.size + 1, 3, none⟩ (.slice d3 l3 e3)).heap.size [.slice d0 l0 e0, .slice d1 l1 e1, .bool false, .slice d3 l3 e3] (flushD ss cs, [], false, bs)) := (o2.but hbt (.inr (by omega))).widen (by omega) z9
      have FB := hidden (Below.andBut KB hbt (by omega))
      clear hbt KB bb o2
      go_wp2
      refine bodyPost_ret (v := .agg #[.slice d0 l0 e0, .slice d1 l1 e1, .bool false, .slice d3 l3 e3]) (by simp [results, Try.results55, go_sem, p0, p1, p2, p3]) rfl ?_
      exact ⟨_, _, _, rfl, FIN.out, FB.out⟩
  · have hM : memB ss cs bs = false := by simpa using hM
    have e1 : flSS ss cs f bs = ss := by unfold flSS; simp [hM]
    have e2 : flCS ss cs f bs = cs := by unfold flCS; simp [hM]
    rw [e1, e2]
    clear e1 e2
    have hA : Below w.heap.size w ((w.alloc (.cells #[.slice a0 n0 c0, .slice a1 n1 c1, .bool f, .slice a3 n3 c3] 57)).alloc (.cells #[.slice none 0 0, .slice none 0 0, .bool false, .slice none 0 0] 57)) := ((Below.refl _ _).alloc (Nat.le_refl _) _).alloc (by simp) _
    have xm : Box ((w.alloc (.cells #[.slice a0 n0 c0, .slice a1 n1 c1, .bool f, .slice a3 n3 c3] 57)).alloc (.cells #[.slice none 0 0, .slice none 0 0, .bool false, .slice none 0 0] 57)) w.heap.size 57 #[.slice a0 n0 c0, .slice a1 n1 c1, .bool f, .slice a3 n3 c3] := (Box.new w _ _).alloc _
    have xr : Box ((w.alloc (.cells #[.slice a0 n0 c0, .slice a1 n1 c1, .bool f, .slice a3 n3 c3] 57)).alloc (.cells #[.slice none 0 0, .slice none 0 0, .bool false, .slice none 0 0] 57)) (w.heap.size + 1) 57 #[.slice none 0 0, .slice none 0 0, .bool false, .slice none 0 0] := by
      have := Box.new (w.alloc (.cells #[.slice a0 n0 c0, .slice a1 n1 c1, .bool f, .slice a3 n3 c3] 57)) 57 #[.slice none 0 0, .slice none 0 0, .bool false, .slice none 0 0]
      rw [show (w.alloc (.cells #[.slice a0 n0 c0, .slice a1 n1 c1, .bool f, .slice a3 n3 c3] 57)).heap.size = w.heap.size + 1 by simp] at this
      exact this
    go_enter Try.func55, Try.ntmps55
    go_wp2_with fail
    generalize hW : (w.alloc (.cells #[.slice a0 n0 c0, .slice a1 n1 c1, .bool f, .slice a3 n3 c3] 57)).alloc (.cells #[.slice none 0 0, .slice none 0 0, .bool false, .slice none 0 0] 57) = W at hA xm xr ⊢
    clear hW
    have zr := xr.lt
    obtain ⟨q0, q1, q2, q3⟩ := xm.cells4
    have XM := hidden xm
    have XR := hidden xr
    clear xm xr
    refine (implMemOk_any _ E _ _ _ _ _ _ _ _ _ ss cs f bs (h0.below hA) (h1.below hA) (h3.below hA) hw).mono ?_
    rintro e w1 ⟨rfl, b1⟩
    have z1 := b1.size
    have XM1 := hidden (XM.out.below b1 (by omega))
    have XR1 := hidden (XR.out.below b1 (by omega))
    have B1 := hidden (hA.trans (b1.mono (by omega)))
    clear q0 q1 q2 q3 XM XR b1 hA
    obtain ⟨q0, q1, q2, q3⟩ := XM1.out.cells4
    go_wp2_with fail
    refine (copyMem_any _ E _ _ _ _ _ _ _ _ _ ss cs f bs (h0.below B1.out) (h1.below B1.out) (h3.below B1.out) hw).mono ?_
    intro e w2 hc
    obtain ⟨b0, b1, b3, e0, e1, e3, m1, m2, rfl, o3, o0, o1, r1, r2, r3, bb⟩ := copy_shapes hl0 hl1 hl3 hc
    clear hc
    have z2 := bb.size
    clear q0 q1 q2 q3
    obtain ⟨p0, p1, p2, p3⟩ := (XR1.out.below bb (by omega)).cells4
    have fz := (XR1.out.below bb (by omega)).frozen
    have KB := B1.out.trans (bb.mono (by omega))
    have hbt : But (w.heap.size + 1) (w.heap.size + 2) w2 ((((w2.setCell ⟨w.heap.size + 1, 0, none⟩ (.slice b0 n0 e0)).setCell ⟨w.heap.size + 1, 1, none⟩ (.slice b1 n1 e1)).setCell ⟨w.heap.size + 1, 2, none⟩ (.bool f)).setCell ⟨w.heap.size + 1, 3, none⟩ (.slice b3 n3 e3)) :=
      (((But.setCell (by omega) (by omega) _).trans (But.setCell (by omega) (by omega) _)).trans (But.setCell (by omega) (by omega) _)).trans (But.setCell (by omega) (by omega) _)
    have z9 := hbt.size
    have FIN : Hid ((tMem 100).Own ((((w2.setCell ⟨w.heap.size + 1, 0, none⟩ (.slice b0 n0 e0)).setCell ⟨w.heap.size + 1, 1, none⟩ (.slice b1 n1 e1)).setCell ⟨w.heap.size + 1, 2, none⟩ (.bool f)).setCell ⟨w.heap.size + 1, 3, none⟩ (.slice b3 n3 e3)) w.heap.size ((((w2.setCell ⟨w.heap.size + 1, 0, none⟩ (.slice b0 n0 e0)).setCell ⟨w.heap.size + 1, 1, none⟩ (.slice b1 n1 e1)).setCell ⟨w.heap.size + 1, 2, none⟩ (.bool f)).setCell ⟨w.heap.size + 1, 3, none⟩ (.slice b3 n3 e3)).heap.size [.slice b0 n0 e0, .slice b1 n1 e1, .bool f, .slice b3 n3 e3] (ss, cs, f, bs)) := mem_own3 (o0.but hbt (by omega)) (o1.but hbt (by omega)) (o3.but hbt (by omega)) (by omega) (by omega) (by omega) (by omega) (by omega) (by omega)
    have FB := hidden (Below.andBut KB hbt (by omega))
    clear hbt KB bb o0 o1 o3
    go_wp2
    refine bodyPost_ret (v := .agg #[.slice b0 n0 e0, .slice b1 n1 e1, .bool f, .slice b3 n3 e3]) (by simp [results, Try.results55, go_sem, p0, p1, p2, p3]) rfl ?_
    exact ⟨_, _, _, rfl, FIN.out, FB.out⟩

end Go.Proofs.Ytgjldmjlbhkgbaa
