/-
  The walk of the program's WriteSec: one write more in the cache, the sector no longer Bad, in memory of its own; else the disk as it was, and false. Condition: the disk and the sector weigh at most 2097152 each.
-/
import Derived.Test.YtgjldmjlbhkgbaaHeld
import Derived.Test.YtgjldmjlbhkgbaaWalkFlush
import Derived.Test.YtgjldmjlbhkgbaaWalkDel
import Derived.Test.YtgjldmjlbhkgbaaOrder
import Derived.Test.YtgjldmjlbhkgbaaRetMem
namespace Go.Proofs.Ytgjldmjlbhkgbaa
open Go.RowKit

/-- Whether a sector can be written; the cache and the sectors that can't be read behind it. -/
def wrOk (ss : List (List Int)) (cs : List (Int × List Int)) (f : Bool) (bs : List Int) (n : Int) (sw : List Int) : Bool := memB ss cs bs && (!f && (inB n 0 ((ss.length : Int) - 1) && (secB sw && decide (cs.length < 60))))
def wrCS (ss : List (List Int)) (cs : List (Int × List Int)) (f : Bool) (bs : List Int) (n : Int) (sw : List Int) : List (Int × List Int) := if wrOk ss cs f bs n sw = true then cs ++ [(n, sw)] else cs
def wrBS (ss : List (List Int)) (cs : List (Int × List Int)) (f : Bool) (bs : List Int) (n : Int) (sw : List Int) : List Int := if wrOk ss cs f bs n sw = true then filt bs n else bs

set_option maxHeartbeats 6400000 in
theorem implWriteSec_any (w : World) (E : TypeId) (a0 a1 a3 a5 : Option Addr) (n0 c0 n1 c1 n3 c3 n5 c5 : Nat) (ss : List (List Int)) (cs : List (Int × List Int)) (f : Bool) (bs : List Int) (n : Int) (sw : List Int) (h0 : tIntSS.Rd w [.slice a0 n0 c0] ss) (h1 : (tWrS E).Rd w [.slice a1 n1 c1] cs) (h3 : tIntS.Rd w [.slice a3 n3 c3] bs) (h5 : tIntS.Rd w [.slice a5 n5 c5] sw) (hw : wtMem (ss, cs, f, bs) ≤ 2097152) (hw5 : n5 ≤ 2097152) :
    Calls Try.prog 53 #[.agg #[.slice a0 n0 c0, .slice a1 n1 c1, .bool f, .slice a3 n3 c3], .int .i64 n, .slice a5 n5 c5] w fun e w' => ∃ v0 v1 v3, e = .returned (.tuple #[.agg #[v0, v1, .bool f, v3], .bool (wrOk ss cs f bs n sw)]) ∧ (tMem 100).Own w' w.heap.size w'.heap.size [v0, v1, .bool f, v3] (ss, wrCS ss cs f bs n sw, f, wrBS ss cs f bs n sw) ∧ Below w.heap.size w w' := by
  obtain ⟨hl0, _, hm0⟩ := row_length h0
  obtain ⟨hl1, _, hm1⟩ := row_length h1
  obtain ⟨hl3, _, hm3⟩ := row_length h3
  obtain ⟨hl5, _, hm5⟩ := row_length h5
  have hA : Below w.heap.size w (((w.alloc (.cells #[.slice a0 n0 c0, .slice a1 n1 c1, .bool f, .slice a3 n3 c3] 57)).alloc (.cells #[.int .i64 n] 3)).alloc (.cells #[.slice none 0 0, .slice none 0 0, .bool false, .slice none 0 0] 57)) := (((Below.refl _ _).alloc (Nat.le_refl _) _).alloc (by simp) _).alloc (by simp; omega) _
  have xm : Box (((w.alloc (.cells #[.slice a0 n0 c0, .slice a1 n1 c1, .bool f, .slice a3 n3 c3] 57)).alloc (.cells #[.int .i64 n] 3)).alloc (.cells #[.slice none 0 0, .slice none 0 0, .bool false, .slice none 0 0] 57)) w.heap.size 57 #[.slice a0 n0 c0, .slice a1 n1 c1, .bool f, .slice a3 n3 c3] := ((Box.new w _ _).alloc _).alloc _
  have xn : Box (((w.alloc (.cells #[.slice a0 n0 c0, .slice a1 n1 c1, .bool f, .slice a3 n3 c3] 57)).alloc (.cells #[.int .i64 n] 3)).alloc (.cells #[.slice none 0 0, .slice none 0 0, .bool false, .slice none 0 0] 57)) (w.heap.size + 1) 3 #[.int .i64 n] := by
    have := Box.new (w.alloc (.cells #[.slice a0 n0 c0, .slice a1 n1 c1, .bool f, .slice a3 n3 c3] 57)) 3 #[.int .i64 n]
    rw [show (w.alloc (.cells #[.slice a0 n0 c0, .slice a1 n1 c1, .bool f, .slice a3 n3 c3] 57)).heap.size = w.heap.size + 1 by simp] at this
    exact this.alloc _
  have xr : Box (((w.alloc (.cells #[.slice a0 n0 c0, .slice a1 n1 c1, .bool f, .slice a3 n3 c3] 57)).alloc (.cells #[.int .i64 n] 3)).alloc (.cells #[.slice none 0 0, .slice none 0 0, .bool false, .slice none 0 0] 57)) (w.heap.size + 2) 57 #[.slice none 0 0, .slice none 0 0, .bool false, .slice none 0 0] := by
    have := Box.new ((w.alloc (.cells #[.slice a0 n0 c0, .slice a1 n1 c1, .bool f, .slice a3 n3 c3] 57)).alloc (.cells #[.int .i64 n] 3)) 57 #[.slice none 0 0, .slice none 0 0, .bool false, .slice none 0 0]
    rw [show ((w.alloc (.cells #[.slice a0 n0 c0, .slice a1 n1 c1, .bool f, .slice a3 n3 c3] 57)).alloc (.cells #[.int .i64 n] 3)).heap.size = w.heap.size + 2 by simp] at this
    exact this
  go_enter Try.func53, Try.ntmps53
  go_wp2_with fail
  generalize hW : ((w.alloc (.cells #[.slice a0 n0 c0, .slice a1 n1 c1, .bool f, .slice a3 n3 c3] 57)).alloc (.cells #[.int .i64 n] 3)).alloc (.cells #[.slice none 0 0, .slice none 0 0, .bool false, .slice none 0 0] 57) = W at hA xm xn xr ⊢
  clear hW
  have zr := xr.lt
  have B0 := hidden hA
  clear hA
  have XM0 := hidden xm
  clear xm
  have XN0 := hidden xn
  clear xn
  have XR0 := hidden xr
  clear xr
  refine (copyMem_any _ E _ _ _ _ _ _ _ _ _ ss cs f bs (h0.below B0.out) (h1.below B0.out) (h3.below B0.out) hw).mono ?_
  intro e w1 hc
  obtain ⟨b0, b1, b3, e0, e1, e3, m1, m2, rfl, o3, o0, o1, r1, r2, r3, hb1⟩ := copy_shapes hl0 hl1 hl3 hc
  clear hc
  have B1 := hidden (Below.andThen B0.out hb1)
  have XM1 := hidden (XM0.out.below hb1 (by omega))
  have XN1 := hidden (XN0.out.below hb1 (by omega))
  have XR1 := hidden (XR0.out.below hb1 (by omega))
  have z1 := hb1.size
  clear B0 XM0 XN0 XR0 hb1
  have S1 := hidden o0
  clear o0
  have C1 := hidden o1
  clear o1
  have D1 := hidden o3
  clear o3
  have ba : Below w1.heap.size w1 (w1.alloc (.cells #[.slice b0 n0 e0, .slice b1 n1 e1, .bool f, .slice b3 n3 e3] 57)) := (Below.refl _ _).alloc (Nat.le_refl _) _
  have yo := Box.new w1 57 #[.slice b0 n0 e0, .slice b1 n1 e1, .bool f, .slice b3 n3 e3]
  have zo := yo.lt
  have B2 := hidden (Below.andThen B1.out ba)
  have XM2 := hidden (XM1.out.below ba (by omega))
  have XN2 := hidden (XN1.out.below ba (by omega))
  have XR2 := hidden (XR1.out.below ba (by omega))
  have S2 := hidden (S1.out.below ba)
  have C2 := hidden (C1.out.below ba)
  have D2 := hidden (D1.out.below ba)
  have z2 := ba.size
  clear B1 XM1 XN1 XR1 S1 C1 D1 ba
  have XO2 := hidden yo
  clear yo
  have sW : w.heap.size + 2 < W.heap.size := zr
  obtain ⟨q0, q1, q2, q3⟩ := XM2.out.cells4
  go_wp2_with fail
  generalize w1.alloc (.cells #[.slice b0 n0 e0, .slice b1 n1 e1, .bool f, .slice b3 n3 e3] 57) = w2 at B2 XM2 XN2 XR2 S2 C2 D2 XO2 z2 zo q0 q1 q2 q3 ⊢
  refine (implMemOk_any _ E _ _ _ _ _ _ _ _ _ ss cs f bs (h0.below B2.out) (h1.below B2.out) (h3.below B2.out) hw).mono ?_
  rintro e w3 ⟨rfl, hb3⟩
  clear q0 q1 q2 q3
  have B3 := hidden (Below.andThen B2.out hb3)
  have XM3 := hidden (XM2.out.below hb3 (by omega))
  have XN3 := hidden (XN2.out.below hb3 (by omega))
  have XR3 := hidden (XR2.out.below hb3 (by omega))
  have S3 := hidden (S2.out.below hb3)
  have C3 := hidden (C2.out.below hb3)
  have D3 := hidden (D2.out.below hb3)
  have XO3 := hidden (XO2.out.below hb3 (by omega))
  have z3 := hb3.size
  clear B2 XM2 XN2 XR2 S2 C2 D2 XO2 hb3
  cases hM : memB ss cs bs
  · have HK : Hid (wrOk ss cs f bs n sw = false ∧ wrCS ss cs f bs n sw = cs ∧ wrBS ss cs f bs n sw = bs) := by
      have hk : wrOk ss cs f bs n sw = false := by unfold wrOk; simp [hM]
      unfold wrCS wrBS
      exact ⟨hk, by rw [hk]; rfl, by rw [hk]; rfl⟩
    obtain ⟨q0, q1, q2, q3⟩ := XM3.out.cells4
    obtain ⟨x0, x1, x2, x3⟩ := XO3.out.cells4
    obtain ⟨p0, p1, p2, p3⟩ := XR3.out.cells4
    have fz := XR3.out.frozen
    have FIN := hidden (mem_ret (f := f) B3.out D3.out S3.out C3.out r2 r1 r3 (by omega) sW (by omega))
    clear B3 XM3 XN3 XR3 S3 C3 D3 XO3
    go_wp2
    refine bodyPost_ret (v := .tuple #[.agg #[.slice b0 n0 e0, .slice b1 n1 e1, .bool f, .slice b3 n3 e3], .bool false]) (by simp [results, Try.results53, go_sem, p0, p1, p2, p3]) rfl ?_
    exact ⟨_, _, _, by rw [HK.out.1], by rw [HK.out.2.1, HK.out.2.2]; exact FIN.out.1, FIN.out.2⟩
  cases f
  rotate_left
  · skip
    have HK : Hid (wrOk ss cs true bs n sw = false ∧ wrCS ss cs true bs n sw = cs ∧ wrBS ss cs true bs n sw = bs) := by
      have hk : wrOk ss cs true bs n sw = false := by unfold wrOk; simp [hM]
      unfold wrCS wrBS
      exact ⟨hk, by rw [hk]; rfl, by rw [hk]; rfl⟩
    obtain ⟨q0, q1, q2, q3⟩ := XM3.out.cells4
    obtain ⟨x0, x1, x2, x3⟩ := XO3.out.cells4
    obtain ⟨p0, p1, p2, p3⟩ := XR3.out.cells4
    have fz := XR3.out.frozen
    have FIN := hidden (mem_ret (f := true) B3.out D3.out S3.out C3.out r2 r1 r3 (by omega) sW (by omega))
    clear B3 XM3 XN3 XR3 S3 C3 D3 XO3
    go_wp2
    refine bodyPost_ret (v := .tuple #[.agg #[.slice b0 n0 e0, .slice b1 n1 e1, .bool true, .slice b3 n3 e3], .bool false]) (by simp [results, Try.results53, go_sem, p0, p1, p2, p3]) rfl ?_
    exact ⟨_, _, _, by rw [HK.out.1], by rw [HK.out.2.1, HK.out.2.2]; exact FIN.out.1, FIN.out.2⟩
  obtain ⟨q0, q1, q2, q3⟩ := XM3.out.cells4
  have qn : w3.cell? ⟨w.heap.size + 1, 0, none⟩ = some (.int .i64 n) := XN3.out.cell 0
  go_wp2_with fail
  refine (hasSec_any _ _ _ _ _ _ _ _).mono ?_
  rintro e w4 ⟨rfl, hb4⟩
  clear q0 q1 q2 q3
  clear qn
  have B4 := hidden (Below.andThen B3.out hb4)
  have XM4 := hidden (XM3.out.below hb4 (by omega))
  have XN4 := hidden (XN3.out.below hb4 (by omega))
  have XR4 := hidden (XR3.out.below hb4 (by omega))
  have S4 := hidden (S3.out.below hb4)
  have C4 := hidden (C3.out.below hb4)
  have D4 := hidden (D3.out.below hb4)
  have XO4 := hidden (XO3.out.below hb4 (by omega))
  have z4 := hb4.size
  clear B3 XM3 XN3 XR3 S3 C3 D3 XO3 hb4
  cases hI : inB n 0 ((n0 : Int) - 1)
  · have hI2 : inB n 0 ((ss.length : Int) - 1) = false := by rw [hl0]; exact hI
    have HK : Hid (wrOk ss cs false bs n sw = false ∧ wrCS ss cs false bs n sw = cs ∧ wrBS ss cs false bs n sw = bs) := by
      have hk : wrOk ss cs false bs n sw = false := by unfold wrOk; simp [hI2]
      unfold wrCS wrBS
      exact ⟨hk, by rw [hk]; rfl, by rw [hk]; rfl⟩
    obtain ⟨q0, q1, q2, q3⟩ := XM4.out.cells4
    obtain ⟨x0, x1, x2, x3⟩ := XO4.out.cells4
    obtain ⟨p0, p1, p2, p3⟩ := XR4.out.cells4
    have fz := XR4.out.frozen
    have FIN := hidden (mem_ret (f := false) B4.out D4.out S4.out C4.out r2 r1 r3 (by omega) sW (by omega))
    clear B4 XM4 XN4 XR4 S4 C4 D4 XO4
    go_wp2
    refine bodyPost_ret (v := .tuple #[.agg #[.slice b0 n0 e0, .slice b1 n1 e1, .bool false, .slice b3 n3 e3], .bool false]) (by simp [results, Try.results53, go_sem, p0, p1, p2, p3]) rfl ?_
    exact ⟨_, _, _, by rw [HK.out.1], by rw [HK.out.2.1, HK.out.2.2]; exact FIN.out.1, FIN.out.2⟩
  obtain ⟨q0, q1, q2, q3⟩ := XM4.out.cells4
  go_wp2_with fail
  refine (implSecOk_any _ _ _ _ sw hl5 (ints_rd (h5.below B4.out)).1 hw5).mono ?_
  rintro e w5 ⟨rfl, hs5⟩
  clear q0 q1 q2 q3
  have B5 := hidden (Below.andSame B4.out hs5)
  have XM5 := hidden (XM4.out.same hs5)
  have XN5 := hidden (XN4.out.same hs5)
  have XR5 := hidden (XR4.out.same hs5)
  have S5 := hidden (S4.out.same hs5)
  have C5 := hidden (C4.out.same hs5)
  have D5 := hidden (D4.out.same hs5)
  have XO5 := hidden (XO4.out.same hs5)
  have z5 := Nat.le_of_eq hs5.size.symm
  clear B4 XM4 XN4 XR4 S4 C4 D4 XO4 hs5
  cases hS : secB sw
  · have HK : Hid (wrOk ss cs false bs n sw = false ∧ wrCS ss cs false bs n sw = cs ∧ wrBS ss cs false bs n sw = bs) := by
      have hk : wrOk ss cs false bs n sw = false := by unfold wrOk; simp [hS]
      unfold wrCS wrBS
      exact ⟨hk, by rw [hk]; rfl, by rw [hk]; rfl⟩
    obtain ⟨q0, q1, q2, q3⟩ := XM5.out.cells4
    obtain ⟨x0, x1, x2, x3⟩ := XO5.out.cells4
    obtain ⟨p0, p1, p2, p3⟩ := XR5.out.cells4
    have fz := XR5.out.frozen
    have FIN := hidden (mem_ret (f := false) B5.out D5.out S5.out C5.out r2 r1 r3 (by omega) sW (by omega))
    clear B5 XM5 XN5 XR5 S5 C5 D5 XO5
    go_wp2
    refine bodyPost_ret (v := .tuple #[.agg #[.slice b0 n0 e0, .slice b1 n1 e1, .bool false, .slice b3 n3 e3], .bool false]) (by simp [results, Try.results53, go_sem, p0, p1, p2, p3]) rfl ?_
    exact ⟨_, _, _, by rw [HK.out.1], by rw [HK.out.2.1, HK.out.2.2]; exact FIN.out.1, FIN.out.2⟩
  by_cases hL : n1 < 60
  rotate_left
  · have hL' : (60 : Int) ≤ (n1 : Int) := by omega
    have hL2 : ¬ cs.length < 60 := by omega
    have HK : Hid (wrOk ss cs false bs n sw = false ∧ wrCS ss cs false bs n sw = cs ∧ wrBS ss cs false bs n sw = bs) := by
      have hk : wrOk ss cs false bs n sw = false := by unfold wrOk; simp [hL2]
      unfold wrCS wrBS
      exact ⟨hk, by rw [hk]; rfl, by rw [hk]; rfl⟩
    obtain ⟨q0, q1, q2, q3⟩ := XM5.out.cells4
    obtain ⟨x0, x1, x2, x3⟩ := XO5.out.cells4
    obtain ⟨p0, p1, p2, p3⟩ := XR5.out.cells4
    have fz := XR5.out.frozen
    have FIN := hidden (mem_ret (f := false) B5.out D5.out S5.out C5.out r2 r1 r3 (by omega) sW (by omega))
    clear B5 XM5 XN5 XR5 S5 C5 D5 XO5
    go_wp2
    refine bodyPost_ret (v := .tuple #[.agg #[.slice b0 n0 e0, .slice b1 n1 e1, .bool false, .slice b3 n3 e3], .bool false]) (by simp [results, Try.results53, go_sem, p0, p1, p2, p3]) rfl ?_
    exact ⟨_, _, _, by rw [HK.out.1], by rw [HK.out.2.1, HK.out.2.2]; exact FIN.out.1, FIN.out.2⟩
  have hL' : ¬ (60 : Int) ≤ (n1 : Int) := by omega
  have HK : Hid (wrOk ss cs false bs n sw = true ∧ wrCS ss cs false bs n sw = cs ++ [(n, sw)] ∧ wrBS ss cs false bs n sw = filt bs n) := by
    have hk : wrOk ss cs false bs n sw = true := by unfold wrOk; rw [hM, hl0, hI, hS, decide_eq_true (by omega)]; rfl
    unfold wrCS wrBS
    exact ⟨hk, by rw [hk]; rfl, by rw [hk]; rfl⟩
  clear hM hI hS
  obtain ⟨q0, q1, q2, q3⟩ := XM5.out.cells4
  obtain ⟨x0, x1, x2, x3⟩ := XO5.out.cells4
  have qn : w5.cell? ⟨w.heap.size + 1, 0, none⟩ = some (.int .i64 n) := XN5.out.cell 0
  have hle : ¬ (60 : Int) ≤ (n1 : Int) := by omega
  have hlw3 : n3 ≤ 2097152 := by unfold wtMem at hw; simp only at hw; omega
  go_wp2_with fail
  clear q0 q1 q2 q3
  obtain ⟨i1, hi1, hy0, hy1, hy2⟩ := info_parts Try.infoWr
  obtain ⟨fpC, mC, rC⟩ := C5.out.mine
  have MC := hidden mC
  have RC := hidden rC
  clear mC rC
  have HX5 := hidden (h5.below B5.out)
  have L1 : Hid (cs.length + 1 ≤ maxLen) := by unfold Hid maxLen; omega
  have L2 : Hid ((cs.length + 1) * 32 ≤ 140737488355328) := by unfold Hid; omega
  have hS : w5.drew.cell? ⟨w1.heap.size, 1, none⟩ = some (.slice b1 n1 e1) ∧ w5.drew.cell? ⟨w.heap.size + 1, 0, none⟩ = some (.int .i64 n) := ⟨XO5.out.cell 1, XN5.out.cell 0⟩
  clear x0 x1 x2 x3 qn hle
  refine Upto.start (S := fun w' => w'.cell? ⟨w1.heap.size, 1, none⟩ = some (.slice b1 n1 e1) ∧ w'.cell? ⟨w.heap.size + 1, 0, none⟩ = some (.int .i64 n)) (k := 9) (by kernel_rfl) ?_
  refine Upto.t 0 hS ?_
  refine Upto.t 1 hS ?_
  refine Upto.t 2 hS ?_
  refine Upto.t 3 hS ?_
  refine Upto.one (i := 4) (by kernel_rfl) rfl (fun K hK => ?_)
  go_simp
  refine (copyWords_any _ _ _ _ sw (by exact HX5.out.drew) (by omega)).mono ?_
  rintro e wc ⟨ac, cc, rfl, oc, hbd⟩
  have hbc : Below w5.heap.size w5 wc := (by exact (Below.refl w5.heap.size w5).drew.trans hbd)
  obtain ⟨fpx, mx, rx⟩ := Ty.Own.mine (lo := w5.heap.size) oc
  have MX := hidden mx
  have RX := hidden rx
  clear mx rx oc hbd
  have xoc : Box wc w1.heap.size 57 _ := XO5.out.below hbc (by omega)
  have xnc : Box wc (w.heap.size + 1) 3 _ := XN5.out.below hbc (by omega)
  have hS3 : wc.cell? ⟨w1.heap.size, 1, none⟩ = some (.slice b1 n1 e1) ∧ wc.cell? ⟨w.heap.size + 1, 0, none⟩ = some (.int .i64 n) := ⟨xoc.cell 1, xnc.cell 0⟩
  have hS4 : (wc.alloc (.cells #[.int .i64 n, .slice ac n5 cc] 100)).cell? ⟨w1.heap.size, 1, none⟩ = some (.slice b1 n1 e1) ∧ (wc.alloc (.cells #[.int .i64 n, .slice ac n5 cc] 100)).cell? ⟨w.heap.size + 1, 0, none⟩ = some (.int .i64 n) := ⟨(xoc.alloc (.cells #[.int .i64 n, .slice ac n5 cc] 100)).cell 1, (xnc.alloc (.cells #[.int .i64 n, .slice ac n5 cc] 100)).cell 0⟩
  have XOC := hidden xoc
  have XNC := hidden xnc
  have HBC := hidden hbc
  clear xoc hbc xnc
  go_wp2_with fail
  refine hK.out _ _ (fun _ => hS3) ?_
  clear hK K
  refine Upto.t 5 hS3 ?_
  refine Upto.one (i := 6) (by kernel_rfl) rfl (fun K hK => ?_)
  go_simp
  refine hK.out _ _ (fun _ => hS4) ?_
  clear hK K
  refine Upto.one (i := 7) (by kernel_rfl) rfl (fun K hK => ?_)
  refine step_appT tWr (by rfl) _ _ 54 (by rfl) 100 i1 (.agg #[.int .i64 0, .slice none 0 0]) 32 Try.underlying54 hi1 hy0 hy1 hy2 rfl Nat.zero_lt_two (.slice b1 n1 e1) cs fpC (by rfl) ?_ ⟨wc.heap.size, 0, none⟩ 1 [.int .i64 n, .slice ac n5 cc] (n, sw) fpx (by rfl) ?_ ?_ ?_ ?_ L1.out L2.out ?_
  · exact (MC.out.below HBC.out).alloc _
  · exact (wr_mine n MX.out).alloc _
  · intro b hb hb'
    have h1 := RC.out b hb
    have h2 := RX.out b hb'
    omega
  · exact news_new _ _ _
  · intro u hu
    simp at hu
    rcases hu with hu | hu <;> (rw [hu]; rfl)
  intro g cap wA fpA m1' m2' m3'
  rw [hl1] at m1' ⊢
  have zB : (wc.alloc (.cells #[.int .i64 n, .slice ac n5 cc] 100)).heap.size = wc.heap.size + 1 := by simp
  have ya : Box wA w1.heap.size 57 _ := (XOC.out.alloc _).turned m3' (fun hm => by have := RC.out _ hm; omega)
  have yn : Box wA (w.heap.size + 1) 3 _ := (XNC.out.alloc _).turned m3' (fun hm => by have := RC.out _ hm; omega)
  have hS5 : wA.cell? ⟨w1.heap.size, 1, none⟩ = some (.slice b1 n1 e1) ∧ wA.cell? ⟨w.heap.size + 1, 0, none⟩ = some (.int .i64 n) := ⟨ya.cell 1, yn.cell 0⟩
  have c9 := hS5.1
  have fz := ya.frozen 1
  have YA := hidden ya
  have M1 := hidden m1'
  have M2 := hidden m2'
  have M3 := hidden m3'
  have ZB := hidden zB
  clear ya m1' m2' m3' zB yn
  refine hK.out _ _ (fun _ => hS5) ?_
  clear hK K
  simp only [Act.put, List.setIfInBounds_toArray, List.set_cons_zero, List.set_cons_succ]
  refine Upto.t 8 hS5 ?_
  refine Upto.one (i := 9) (by kernel_rfl) rfl (fun K hK => ?_)
  go_simp
  refine hK.out _ _ (fun h => absurd rfl h) ?_
  clear hK K
  refine Upto.done (by kernel_rfl) ?_ _
  have zc := HBC.out.size
  have zA := M3.out.size
  have zB := ZB.out
  have hb6 : But m2 (w1.heap.size + 1) w5 (wA.setCell ⟨w1.heap.size, 1, none⟩ (.slice (some ⟨g, 0, none⟩) (n1 + 1) cap)) := ((But.of_below (Below.andThen HBC.out ((Below.refl _ _).alloc (Nat.le_refl _) _))).trans (M3.out.but (fun b hb => by have := RC.out b hb; omega))).trans (But.setCell (by omega) (by omega) _)
  have rA : ∀ b ∈ fpA, m2 ≤ b ∧ b ≠ w1.heap.size ∧ b < wA.heap.size := fun b hb => by
    have hlt := M1.out.lt b hb
    rcases M2.out b hb with h | h | h
    · have := RC.out b h
      omega
    · have := RX.out b h
      omega
    · have := h.1
      omega
  have mZ := M1.out.setCell (g := w1.heap.size) (j := 1) (fun hm => by have := rA _ hm; omega) (.slice (some ⟨g, 0, none⟩) (n1 + 1) cap)
  have yZ := YA.out.set 1 (.slice (some ⟨g, 0, none⟩) (n1 + 1) cap)
  have zs : wA.heap.size ≤ (wA.setCell ⟨w1.heap.size, 1, none⟩ (.slice (some ⟨g, 0, none⟩) (n1 + 1) cap)).heap.size := by simp
  have MZ := hidden mZ
  have RZ : Hid (∀ b ∈ fpA, m2 ≤ b ∧ b ≠ w1.heap.size ∧ b < (wA.setCell ⟨w1.heap.size, 1, none⟩ (.slice (some ⟨g, 0, none⟩) (n1 + 1) cap)).heap.size) := fun b hb => by have := rA b hb; omega
  have YZ := hidden yZ
  clear mZ rA yZ zs zA zB zc hS hS3 hS4 hS5 c9 fz YA M1 M2 M3 ZB XOC MX RX HBC MC RC HX5 L1 L2 XNC
  clear XO5
  clear C5
  have B6 := hidden (Below.andBut B5.out hb6 (by omega))
  have XM6 := hidden (XM5.out.kept (hb6.block _ (by omega) (by omega)))
  have XN6 := hidden (XN5.out.kept (hb6.block _ (by omega) (by omega)))
  have XR6 := hidden (XR5.out.kept (hb6.block _ (by omega) (by omega)))
  have S6 := hidden (S5.out.but hb6 (by omega))
  have D6 := hidden (D5.out.but hb6 (by omega))
  have z6 := hb6.size
  clear B5 XM5 XN5 XR5 S5 D5 hb6
  generalize (wA.setCell ⟨w1.heap.size, 1, none⟩ (.slice (some ⟨g, 0, none⟩) (n1 + 1) cap)) = w6 at B6 XM6 XN6 XR6 S6 D6 z6 MZ RZ YZ ⊢
  have XO6 : Hid (Box w6 w1.heap.size 57 #[.slice b0 n0 e0, .slice (some ⟨g, 0, none⟩) (n1 + 1) cap, .bool false, .slice b3 n3 e3]) := YZ.out
  clear YZ
  have hmf : ∀ (fn : Fn) (first cap : Array Value) (w : World), (Instr.makeFunc fn first cap).run Try.prog w = .ok (.func fn first cap) w := fun _ _ _ _ => rfl
  obtain ⟨x0, x1, x2, x3⟩ := XO6.out.cells4
  have HCN : Hid (w6.cell? ⟨w.heap.size + 1, 0, none⟩ = some (.int .i64 n)) := XN6.out.cell 0
  go_wp2_with fail
  refine (deleteFunc_any _ W.heap.size m1 _ _ _ bs n (w.heap.size + 1) D6.out HCN.out (by omega) (by omega)).mono ?_
  rintro e wb ⟨d3, f3, rfl, od, hbB⟩
  have zb := hbB.size
  have xob : Box wb w1.heap.size 57 _ := XO6.out.kept (hbB.block _ (by omega) (by omega))
  clear x0 x1 x2 x3
  obtain ⟨x0, x1, x2, x3⟩ := xob.cells4
  have fz := xob.frozen 3
  have XOB := hidden xob
  have OD := hidden od
  have HBB := hidden hbB
  clear xob od hbB
  have bs9 := But.setCell (lo := w1.heap.size) (hi := w1.heap.size + 1) (g := w1.heap.size) (j := 3) (w := wb) (Nat.le_refl _) (Nat.lt_succ_self _) (.slice d3 (filt bs n).length f3)
  have zt := bs9.size
  have MY := hidden ((MZ.out.but HBB.out (fun b hb => by have := RZ.out b hb; omega)).but bs9 (fun b hb => by have := RZ.out b hb; omega))
  have YZ := hidden (XOB.out.set 3 (.slice d3 (filt bs n).length f3))
  have D7 := hidden (OD.out.but bs9 (.inl (by omega)))
  have S7 := hidden ((S6.out.but HBB.out (.inr (Nat.le_refl _))).but bs9 (.inl (by omega)))
  have XR7 := hidden ((XR6.out.kept (HBB.out.block _ (by omega) (by omega))).kept (bs9.block _ (by omega) (by omega)))
  have B7 := hidden (Below.andBut (Below.andBut B6.out HBB.out (by omega)) bs9 (by omega))
  have RY : Hid (∀ b ∈ fpA, m2 ≤ b ∧ b < (wb.setCell ⟨w1.heap.size, 3, none⟩ (.slice d3 (filt bs n).length f3)).heap.size) := fun b hb => by have := RZ.out b hb; omega
  have z7 : w6.heap.size ≤ (wb.setCell ⟨w1.heap.size, 3, none⟩ (.slice d3 (filt bs n).length f3)).heap.size := by omega
  clear bs9 zt zb XOB OD HBB MZ RZ HCN hmf B6 XM6 XN6 XR6 S6 D6 XO6
  obtain ⟨t0, t1, t2, t3⟩ := Box.cells4 (v0 := .slice b0 n0 e0) (v1 := .slice (some ⟨g, 0, none⟩) (n1 + 1) cap) (v2 := .bool false) (v3 := .slice d3 (filt bs n).length f3) YZ.out
  obtain ⟨p0, p1, p2, p3⟩ := XR7.out.cells4
  have fr := XR7.out.frozen
  go_wp2
  generalize (wb.setCell ⟨w1.heap.size, 3, none⟩ (.slice d3 (filt bs n).length f3)) = w7 at B7 S7 D7 XR7 MY RY YZ z7 p0 p1 p2 p3 fr t0 t1 t2 t3 ⊢
  have hbt : But (w.heap.size + 2) (w.heap.size + 2 + 1) w7 ((((w7.setCell ⟨w.heap.size + 2, 0, none⟩ (.slice b0 n0 e0)).setCell ⟨w.heap.size + 2, 1, none⟩ (.slice (some ⟨g, 0, none⟩) (n1 + 1) cap)).setCell ⟨w.heap.size + 2, 2, none⟩ (.bool false)).setCell ⟨w.heap.size + 2, 3, none⟩ (.slice d3 (filt bs n).length f3)) :=
    (((But.setCell (by omega) (by omega) _).trans (But.setCell (by omega) (by omega) _)).trans (But.setCell (by omega) (by omega) _)).trans (But.setCell (by omega) (by omega) _)
  have z99 := hbt.size
  refine bodyPost_ret (v := .tuple #[.agg #[.slice b0 n0 e0, .slice (some ⟨g, 0, none⟩) (n1 + 1) cap, .bool false, .slice d3 (filt bs n).length f3], .bool true]) (by simp [results, Try.results53, go_sem, p0, p1, p2, p3]) rfl ?_
  have FIN : Hid ((tMem 100).Own ((((w7.setCell ⟨w.heap.size + 2, 0, none⟩ (.slice b0 n0 e0)).setCell ⟨w.heap.size + 2, 1, none⟩ (.slice (some ⟨g, 0, none⟩) (n1 + 1) cap)).setCell ⟨w.heap.size + 2, 2, none⟩ (.bool false)).setCell ⟨w.heap.size + 2, 3, none⟩ (.slice d3 (filt bs n).length f3)) w.heap.size ((((w7.setCell ⟨w.heap.size + 2, 0, none⟩ (.slice b0 n0 e0)).setCell ⟨w.heap.size + 2, 1, none⟩ (.slice (some ⟨g, 0, none⟩) (n1 + 1) cap)).setCell ⟨w.heap.size + 2, 2, none⟩ (.bool false)).setCell ⟨w.heap.size + 2, 3, none⟩ (.slice d3 (filt bs n).length f3)).heap.size [.slice b0 n0 e0, .slice (some ⟨g, 0, none⟩) (n1 + 1) cap, .bool false, .slice d3 (filt bs n).length f3] (ss, cs ++ [(n, sw)], false, filt bs n)) := mem_own3 (S7.out.but hbt (by omega)) ((MY.out.own (lo := m2) (hi := w7.heap.size) (fun b hb => RY.out b hb)).but hbt (by omega)) (D7.out.but hbt (by omega)) (by omega) (by omega) (by omega) (by omega) (by omega) (by omega)
  have FB := hidden (Below.andBut B7.out hbt (by omega))
  exact ⟨_, _, _, by rw [HK.out.1], by rw [HK.out.2.1, HK.out.2.2]; exact FIN.out, FB.out⟩

end Go.Proofs.Ytgjldmjlbhkgbaa
