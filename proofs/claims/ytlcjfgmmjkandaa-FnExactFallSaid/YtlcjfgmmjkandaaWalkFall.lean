/-
  The walk of the program's FallMem: each sector is what it was, or the last of what was written to it and kept, the cache empty, in memory of its own; what is not MemOk as it was. Condition: the disk weighs at most 2097152.
-/
import Derived.Test.YtlcjfgmmjkandaaWalkKept
namespace Go.Proofs.Ytlcjfgmmjkandaa
open Go.RowKit

/-- The sectors and the cache behind a fall. -/
def faSS (ss : List (List Int)) (cs : List (Int × List Int)) (bs : List Int) (k : Int) : List (List Int) := if memB ss cs bs = true then flushD ss (keptD (keepN k) cs (min cs.length 20)) else ss
def faCS (ss : List (List Int)) (cs : List (Int × List Int)) (bs : List Int) : List (Int × List Int) := if memB ss cs bs = true then [] else cs
theorem mem_cache {ss : List (List Int)} {cs : List (Int × List Int)} {bs : List Int} (h : memB ss cs bs = true) : cs.length ≤ 60 := by
  unfold memB at h
  simp only [Bool.and_eq_true, decide_eq_true_eq] at h
  exact h.2.2.2.2
theorem kept_wt {ss : List (List Int)} {cs : List (Int × List Int)} {bs : List Int} (k : Int) (h : memB ss cs bs = true) : wtWrS (keptD k cs (min cs.length 20)) ≤ 2097152 := by
  have h1 := keptD_length k cs (min cs.length 20)
  have h2 := sumL_bound ((keptD k cs (min cs.length 20)).map fun x => x.2.length) 12 (fun y hy => by
    obtain ⟨x, hx, rfl⟩ := List.mem_map.1 hy
    exact (mem_small h).2 x (keptD_mem (Nat.min_le_left _ _) x hx))
  rw [List.length_map] at h2
  unfold wtWrS
  omega

set_option maxHeartbeats 3200000 in
theorem implFallMem_any (w : World) (E : TypeId) (a0 a1 a3 : Option Addr) (n0 c0 n1 c1 n3 c3 : Nat) (ss : List (List Int)) (cs : List (Int × List Int)) (f : Bool) (bs : List Int) (k : Int) (h0 : tIntSS.Rd w [.slice a0 n0 c0] ss) (h1 : (tWrS E).Rd w [.slice a1 n1 c1] cs) (h3 : tIntS.Rd w [.slice a3 n3 c3] bs) (hw : wtMem (ss, cs, f, bs) ≤ 2097152) :
    Calls Try.prog 45 #[.agg #[.slice a0 n0 c0, .slice a1 n1 c1, .bool f, .slice a3 n3 c3], .int .i64 k] w fun e w' => ∃ v0 v1 v3, e = .returned (.agg #[v0, v1, .bool f, v3]) ∧ (tMem 108).Own w' w.heap.size w'.heap.size [v0, v1, .bool f, v3] (faSS ss cs bs k, faCS ss cs bs, f, bs) ∧ Below w.heap.size w w' := by
  obtain ⟨hl0, _, hm0⟩ := row_length h0
  obtain ⟨hl1, _, hm1⟩ := row_length h1
  obtain ⟨hl3, _, hm3⟩ := row_length h3
  have hwc : wtWrS cs ≤ 2097152 := by unfold wtMem at hw; simp only at hw; omega
  by_cases hM : memB ss cs bs = true
  · have hn20 : n0 ≤ 20 := by have := mem_secs hM; omega
    have hn60 : n1 ≤ 60 := by have := mem_cache hM; omega
    have HKS := hidden (fun x hx => mem_writes hM x (keptD_mem (k := keepN k) (Nat.min_le_left cs.length 20) x hx))
    have HWK := hidden (kept_wt (keepN k) hM)
    have e1 : faSS ss cs bs k = flushD ss (keptD (keepN k) cs (min n1 20)) := by unfold faSS; rw [if_pos hM, hl1]
    have e2 : faCS ss cs bs = [] := by unfold faCS; rw [if_pos hM]
    rw [hl1] at HKS HWK
    rw [e1, e2]
    generalize hkd : keptD (keepN k) cs (min n1 20) = ks at HKS HWK ⊢
    have HKD := hidden hkd
    clear hkd
    clear e1 e2
    have hA : Below w.heap.size w ((w.alloc (.cells #[.slice a0 n0 c0, .slice a1 n1 c1, .bool f, .slice a3 n3 c3] 73)).alloc (.cells #[.slice none 0 0, .slice none 0 0, .bool false, .slice none 0 0] 73)) := ((Below.refl _ _).alloc (Nat.le_refl _) _).alloc (by simp) _
    have xm : Box ((w.alloc (.cells #[.slice a0 n0 c0, .slice a1 n1 c1, .bool f, .slice a3 n3 c3] 73)).alloc (.cells #[.slice none 0 0, .slice none 0 0, .bool false, .slice none 0 0] 73)) w.heap.size 73 #[.slice a0 n0 c0, .slice a1 n1 c1, .bool f, .slice a3 n3 c3] := (Box.new w _ _).alloc _
    have xr : Box ((w.alloc (.cells #[.slice a0 n0 c0, .slice a1 n1 c1, .bool f, .slice a3 n3 c3] 73)).alloc (.cells #[.slice none 0 0, .slice none 0 0, .bool false, .slice none 0 0] 73)) (w.heap.size + 1) 73 #[.slice none 0 0, .slice none 0 0, .bool false, .slice none 0 0] := by
      have := Box.new (w.alloc (.cells #[.slice a0 n0 c0, .slice a1 n1 c1, .bool f, .slice a3 n3 c3] 73)) 73 #[.slice none 0 0, .slice none 0 0, .bool false, .slice none 0 0]
      rw [show (w.alloc (.cells #[.slice a0 n0 c0, .slice a1 n1 c1, .bool f, .slice a3 n3 c3] 73)).heap.size = w.heap.size + 1 by simp] at this
      exact this
    go_enter Try.func45, Try.ntmps45
    go_wp2_with fail
    generalize hW : (w.alloc (.cells #[.slice a0 n0 c0, .slice a1 n1 c1, .bool f, .slice a3 n3 c3] 73)).alloc (.cells #[.slice none 0 0, .slice none 0 0, .bool false, .slice none 0 0] 73) = W at hA xm xr ⊢
    clear hW
    have zr := xr.lt
    obtain ⟨q0, q1, q2, q3⟩ := xm.cells4
    have XM := hidden xm
    have XR := hidden xr
    clear xm xr
    refine (implMemOk_any _ E _ _ _ _ _ _ _ _ _ ss cs f bs (h0.below hA) (h1.below hA) (h3.below hA) hw).mono ?_
    rintro e w1 ⟨rfl, b1⟩
    have z1 := b1.size
    have XM1 := hidden (XM.out.below b1 (by omega))
    have XR1 := hidden (XR.out.below b1 (by omega))
    have B1 := hidden (hA.trans (b1.mono (by omega)))
    clear q0 q1 q2 q3 XM XR b1 hA
    obtain ⟨q0, q1, q2, q3⟩ := XM1.out.cells4
    have hn1n : Hid (w.heap.size ≠ w.heap.size + 1) := by unfold Hid; omega
    have hSc : ∀ w', Box w' w.heap.size 73 #[.slice a0 n0 c0, .slice a1 n1 c1, .bool f, .slice a3 n3 c3] → w'.cell? ⟨w.heap.size, 0, none⟩ = some (.slice a0 n0 c0) ∧ w'.cell? ⟨w.heap.size, 1, none⟩ = some (.slice a1 n1 c1) ∧ w'.cell? ⟨w.heap.size, 2, none⟩ = some (.bool f) ∧ w'.cell? ⟨w.heap.size, 3, none⟩ = some (.slice a3 n3 c3) := fun w' e => e.cells4
    have hSd : ∀ w', Box w' w.heap.size 73 #[.slice a0 n0 c0, .slice a1 n1 c1, .bool f, .slice a3 n3 c3] → w'.drew.cell? ⟨w.heap.size, 0, none⟩ = some (.slice a0 n0 c0) ∧ w'.drew.cell? ⟨w.heap.size, 1, none⟩ = some (.slice a1 n1 c1) ∧ w'.drew.cell? ⟨w.heap.size, 2, none⟩ = some (.bool f) ∧ w'.drew.cell? ⟨w.heap.size, 3, none⟩ = some (.slice a3 n3 c3) := fun w' e => e.cells4
    have RDK := hidden ((h1.below B1.out).drew)
    go_wp2_with fail
    go_region_held3 (fun w' => w'.cell? ⟨w.heap.size, 0, none⟩ = some (.slice a0 n0 c0) ∧ w'.cell? ⟨w.heap.size, 1, none⟩ = some (.slice a1 n1 c1) ∧ w'.cell? ⟨w.heap.size, 2, none⟩ = some (.bool f) ∧ w'.cell? ⟨w.heap.size, 3, none⟩ = some (.slice a3 n3 c3))
      (first | (with_reducible exact hSd w1 XM1.out) | (with_reducible exact hSc w2 XM2.out) | (with_reducible exact hSc w3 XM3.out) | (with_reducible exact hSc _ ((((XM3.out.other hn1n.out 0 _).other hn1n.out 1 _).other hn1n.out 2 _).other hn1n.out 3 _)) | go_keep)
      (first
        | (go_at_call 88; refine (keptOf_any _ E _ _ _ cs k (by exact RDK.out) hn60).mono ?_; rintro e w2 ⟨vk, rfl, rk, bk⟩; rw [HKD.out] at rk; obtain ⟨ak, ck, hvk⟩ := row_shape rk; subst hvk; have b2 : Below w1.heap.size w1 w2 := (by exact (Below.refl w1.heap.size w1).drew.trans bk); have z2 := b2.size; have XM2 := hidden (XM1.out.below b2 (by omega)); have XR2 := hidden (XR1.out.below b2 (by omega)); have B2 := hidden (B1.out.trans (b2.mono (by omega))); have RK := hidden rk; clear rk bk b2)
        | (go_at_call 87; refine (settle_any _ E 108 _ _ _ _ _ _ _ _ _ _ _ _ ss cs f bs (h0.below B2.out) (h1.below B2.out) (h3.below B2.out) hw ks RK.out HWK.out HKS.out hn20).mono ?_; rintro e w3 ⟨v0, v1, v3, rfl, o3, bb⟩; obtain ⟨d0, l0, e0, d1, l1, e1, d3, l3, e3, hv0, hv1, hv3⟩ := mem_slices o3; subst hv0 hv1 hv3; have z3 := bb.size; have XM3 := hidden (XM2.out.below bb (by omega)); have xr3 := XR2.out.below bb (by omega); obtain ⟨p0, p1, p2, p3⟩ := xr3.cells4; have f0 := xr3.frozen 0; have f1 := xr3.frozen 1; have f2 := xr3.frozen 2; have f3 := xr3.frozen 3; have XR3 := hidden xr3; have B3 := hidden (B2.out.trans (bb.mono (by omega))); have O3 := hidden o3; clear xr3 o3 bb))
    have zB := B2.out.size
    have hbt : But (w.heap.size + 1) (w.heap.size + 2) w3 ((((w3.setCell ⟨w.heap.size + 1, 0, none⟩ (.slice d0 l0 e0)).setCell ⟨w.heap.size + 1, 1, none⟩ (.slice d1 l1 e1)).setCell ⟨w.heap.size + 1, 2, none⟩ (.bool f)).setCell ⟨w.heap.size + 1, 3, none⟩ (.slice d3 l3 e3)) :=
      (((But.setCell (by omega) (by omega) _).trans (But.setCell (by omega) (by omega) _)).trans (But.setCell (by omega) (by omega) _)).trans (But.setCell (by omega) (by omega) _)
    have z9 := hbt.size
    have FIN : Hid ((tMem 108).Own ((((w3.setCell ⟨w.heap.size + 1, 0, none⟩ (.slice d0 l0 e0)).setCell ⟨w.heap.size + 1, 1, none⟩ (.slice d1 l1 e1)).setCell ⟨w.heap.size + 1, 2, none⟩ (.bool f)).setCell ⟨w.heap.size + 1, 3, none⟩ (.slice d3 l3 e3)) w.heap.size ((((w3.setCell ⟨w.heap.size + 1, 0, none⟩ (.slice d0 l0 e0)).setCell ⟨w.heap.size + 1, 1, none⟩ (.slice d1 l1 e1)).setCell ⟨w.heap.size + 1, 2, none⟩ (.bool f)).setCell ⟨w.heap.size + 1, 3, none⟩ (.slice d3 l3 e3)).heap.size [.slice d0 l0 e0, .slice d1 l1 e1, .bool f, .slice d3 l3 e3] (flushD ss ks, [], f, bs)) := (O3.out.but hbt (.inr (by omega))).widen (by omega) z9
    have FB := hidden (Below.andBut B3.out hbt (by omega))
    have XF : Hid (Box ((((w3.setCell ⟨w.heap.size + 1, 0, none⟩ (.slice d0 l0 e0)).setCell ⟨w.heap.size + 1, 1, none⟩ (.slice d1 l1 e1)).setCell ⟨w.heap.size + 1, 2, none⟩ (.bool f)).setCell ⟨w.heap.size + 1, 3, none⟩ (.slice d3 l3 e3)) (w.heap.size + 1) 73 #[.slice d0 l0 e0, .slice d1 l1 e1, .bool f, .slice d3 l3 e3]) := (((XR3.out.set 0 (.slice d0 l0 e0)).set 1 (.slice d1 l1 e1)).set 2 (.bool f)).set 3 (.slice d3 l3 e3)
    clear hbt p0 p1 p2 p3 f0 f1 f2 f3 q0 q1 q2 q3
    generalize ((((w3.setCell ⟨w.heap.size + 1, 0, none⟩ (.slice d0 l0 e0)).setCell ⟨w.heap.size + 1, 1, none⟩ (.slice d1 l1 e1)).setCell ⟨w.heap.size + 1, 2, none⟩ (.bool f)).setCell ⟨w.heap.size + 1, 3, none⟩ (.slice d3 l3 e3)) = w9 at FIN FB XF ⊢
    obtain ⟨p0, p1, p2, p3⟩ := XF.out.cells4
    go_wp2
    refine bodyPost_ret (v := .agg #[.slice d0 l0 e0, .slice d1 l1 e1, .bool f, .slice d3 l3 e3]) (by simp [results, Try.results45, go_sem, p0, p1, p2, p3]) rfl ?_
    exact ⟨_, _, _, rfl, FIN.out, FB.out⟩
  · have hM : memB ss cs bs = false := by simpa using hM
    have e1 : faSS ss cs bs k = ss := by unfold faSS; simp [hM]
    have e2 : faCS ss cs bs = cs := by unfold faCS; simp [hM]
    rw [e1, e2]
    clear e1 e2
    have hA : Below w.heap.size w ((w.alloc (.cells #[.slice a0 n0 c0, .slice a1 n1 c1, .bool f, .slice a3 n3 c3] 73)).alloc (.cells #[.slice none 0 0, .slice none 0 0, .bool false, .slice none 0 0] 73)) := ((Below.refl _ _).alloc (Nat.le_refl _) _).alloc (by simp) _
    have xm : Box ((w.alloc (.cells #[.slice a0 n0 c0, .slice a1 n1 c1, .bool f, .slice a3 n3 c3] 73)).alloc (.cells #[.slice none 0 0, .slice none 0 0, .bool false, .slice none 0 0] 73)) w.heap.size 73 #[.slice a0 n0 c0, .slice a1 n1 c1, .bool f, .slice a3 n3 c3] := (Box.new w _ _).alloc _
    have xr : Box ((w.alloc (.cells #[.slice a0 n0 c0, .slice a1 n1 c1, .bool f, .slice a3 n3 c3] 73)).alloc (.cells #[.slice none 0 0, .slice none 0 0, .bool false, .slice none 0 0] 73)) (w.heap.size + 1) 73 #[.slice none 0 0, .slice none 0 0, .bool false, .slice none 0 0] := by
      have := Box.new (w.alloc (.cells #[.slice a0 n0 c0, .slice a1 n1 c1, .bool f, .slice a3 n3 c3] 73)) 73 #[.slice none 0 0, .slice none 0 0, .bool false, .slice none 0 0]
      rw [show (w.alloc (.cells #[.slice a0 n0 c0, .slice a1 n1 c1, .bool f, .slice a3 n3 c3] 73)).heap.size = w.heap.size + 1 by simp] at this
      exact this
    go_enter Try.func45, Try.ntmps45
    go_wp2_with fail
    generalize hW : (w.alloc (.cells #[.slice a0 n0 c0, .slice a1 n1 c1, .bool f, .slice a3 n3 c3] 73)).alloc (.cells #[.slice none 0 0, .slice none 0 0, .bool false, .slice none 0 0] 73) = W at hA xm xr ⊢
    clear hW
    have zr := xr.lt
    obtain ⟨q0, q1, q2, q3⟩ := xm.cells4
    have XM := hidden xm
    have XR := hidden xr
    clear xm xr
    refine (implMemOk_any _ E _ _ _ _ _ _ _ _ _ ss cs f bs (h0.below hA) (h1.below hA) (h3.below hA) hw).mono ?_
    rintro e w1 ⟨rfl, b1⟩
    have z1 := b1.size
    have XM1 := hidden (XM.out.below b1 (by omega))
    have XR1 := hidden (XR.out.below b1 (by omega))
    have B1 := hidden (hA.trans (b1.mono (by omega)))
    clear q0 q1 q2 q3 XM XR b1 hA
    obtain ⟨q0, q1, q2, q3⟩ := XM1.out.cells4
    go_wp2_with fail
    refine (copyMem_any _ E _ _ _ _ _ _ _ _ _ ss cs f bs (h0.below B1.out) (h1.below B1.out) (h3.below B1.out) hw).mono ?_
    intro e w2 hc
    obtain ⟨b0, b1, b3, e0, e1, e3, m1, m2, rfl, o3, o0, o1, r1, r2, r3, bb⟩ := copy_shapes hl0 hl1 hl3 hc
    clear hc
    have z2 := bb.size
    clear q0 q1 q2 q3
    obtain ⟨p0, p1, p2, p3⟩ := (XR1.out.below bb (by omega)).cells4
    have fz := (XR1.out.below bb (by omega)).frozen
    have KB := B1.out.trans (bb.mono (by omega))
    have hbt : But (w.heap.size + 1) (w.heap.size + 2) w2 ((((w2.setCell ⟨w.heap.size + 1, 0, none⟩ (.slice b0 n0 e0)).setCell ⟨w.heap.size + 1, 1, none⟩ (.slice b1 n1 e1)).setCell ⟨w.heap.size + 1, 2, none⟩ (.bool f)).setCell ⟨w.heap.size + 1, 3, none⟩ (.slice b3 n3 e3)) :=
      (((But.setCell (by omega) (by omega) _).trans (But.setCell (by omega) (by omega) _)).trans (But.setCell (by omega) (by omega) _)).trans (But.setCell (by omega) (by omega) _)
    have z9 := hbt.size
    have FIN : Hid ((tMem 108).Own ((((w2.setCell ⟨w.heap.size + 1, 0, none⟩ (.slice b0 n0 e0)).setCell ⟨w.heap.size + 1, 1, none⟩ (.slice b1 n1 e1)).setCell ⟨w.heap.size + 1, 2, none⟩ (.bool f)).setCell ⟨w.heap.size + 1, 3, none⟩ (.slice b3 n3 e3)) w.heap.size ((((w2.setCell ⟨w.heap.size + 1, 0, none⟩ (.slice b0 n0 e0)).setCell ⟨w.heap.size + 1, 1, none⟩ (.slice b1 n1 e1)).setCell ⟨w.heap.size + 1, 2, none⟩ (.bool f)).setCell ⟨w.heap.size + 1, 3, none⟩ (.slice b3 n3 e3)).heap.size [.slice b0 n0 e0, .slice b1 n1 e1, .bool f, .slice b3 n3 e3] (ss, cs, f, bs)) := mem_own3 (o0.but hbt (by omega)) (o1.but hbt (by omega)) (o3.but hbt (by omega)) (by omega) (by omega) (by omega) (by omega) (by omega) (by omega)
    have FB := hidden (Below.andBut KB hbt (by omega))
    clear hbt KB bb o0 o1 o3
    go_wp2
    refine bodyPost_ret (v := .agg #[.slice b0 n0 e0, .slice b1 n1 e1, .bool f, .slice b3 n3 e3]) (by simp [results, Try.results45, go_sem, p0, p1, p2, p3]) rfl ?_
    exact ⟨_, _, _, rfl, FIN.out, FB.out⟩

end Go.Proofs.Ytlcjfgmmjkandaa
