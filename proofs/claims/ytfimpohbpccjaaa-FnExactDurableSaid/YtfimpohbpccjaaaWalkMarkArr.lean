/-
  The walk of the laws' mark over an array: its disks and stripes are marked in place. Condition: it weighs at most 2097152.
-/
import Derived.Test.YtfimpohbpccjaaaWalkArr
import Derived.Test.YtfimpohbpccjaaaWalkMarkMems
namespace Go.Proofs.Ytfimpohbpccjaaa
open Go.RowKit

set_option maxHeartbeats 1600000 in
theorem markArr_own (w : World) (lo m hi : Nat) (x : ArrN) (bm bd : Option Addr) (nm cm nd cd : Nat) (ms : List MemD) (ds : List (Int × List Int)) (h0 : (tMemS 114 54).Own w lo m [.slice bm nm cm] ms) (h1 : (tWrS 83).Own w m hi [.slice bd nd cd] ds) (hlm : lo ≤ m) (hmh : m ≤ hi) (hhi : hi ≤ w.heap.size) (hw : wtArr ms ds ≤ 2097152) :
    Calls Try.prog 16 #[.agg #[.int .i64 x.id, .int .i64 x.n, .int .i64 x.s, .slice bm nm cm, .int .i64 x.lost, .int .i64 x.built, .int .i64 x.seq, .int .i64 x.tail, .int .i64 x.gen, .slice bd nd cd, .int .i64 x.fuse, .bool x.down, .bool x.broken], .int .i64 1] w fun e w' => e = .returned (.int .i64 (1 + (cntMS ms : Int) + (cntWS ds : Int))) ∧ (tMemS 114 54).Own w' lo m [.slice bm nm cm] (markMS 1 ms) ∧ (tWrS 83).Own w' m hi [.slice bd nd cd] (markW (1 + (cntMS ms : Int)) ds) ∧ But lo hi w w' := by
  have hw0 : wtMemS ms ≤ 2097152 := by unfold wtArr at hw; omega
  have hw1 : wtWrS ds ≤ 2097152 := by unfold wtArr at hw; omega
  have hcm := cntMS_le ms
  have hA := new_below w (.cells #[.int .i64 x.id, .int .i64 x.n, .int .i64 x.s, .slice bm nm cm, .int .i64 x.lost, .int .i64 x.built, .int .i64 x.seq, .int .i64 x.tail, .int .i64 x.gen, .slice bd nd cd, .int .i64 x.fuse, .bool x.down, .bool x.broken] 34)
  have A := Box.new w 34 #[.int .i64 x.id, .int .i64 x.n, .int .i64 x.s, .slice bm nm cm, .int .i64 x.lost, .int .i64 x.built, .int .i64 x.seq, .int .i64 x.tail, .int .i64 x.gen, .slice bd nd cd, .int .i64 x.fuse, .bool x.down, .bool x.broken]
  obtain ⟨k0, k1, k2, k3, k4, k5, k6, k7, k8, k9, k10, k11, k12⟩ := A.cells13
  have o0 := h0.below hA
  have o1 := h1.below hA
  have zA := A.lt
  go_enter Try.func16, Try.ntmps16
  go_wp2_with fail
  generalize w.alloc (.cells #[.int .i64 x.id, .int .i64 x.n, .int .i64 x.s, .slice bm nm cm, .int .i64 x.lost, .int .i64 x.built, .int .i64 x.seq, .int .i64 x.tail, .int .i64 x.gen, .slice bd nd cd, .int .i64 x.fuse, .bool x.down, .bool x.broken] 34) = W at hA A o0 o1 zA k0 k1 k2 k3 k4 k5 k6 k7 k8 k9 k10 k11 k12 ⊢
  obtain ⟨f0, m0, r0⟩ := o0.mine
  refine (markMemS_fp _ _ _ _ ms 1 f0 m0 hw0 (by omega) (by omega)).mono ?_
  rintro e w1 ⟨rfl, p0, t1⟩
  have hb1 := t1.but (lo := lo) (hi := m) r0
  have q0 := p0.own r0
  have q1 := o1.but hb1 (.inr (Nat.le_refl _))
  have A1 := A.kept (hb1.block _ zA (by omega))
  have B1 := (But.of_below (lo := lo) (hi := hi) hA).trans ⟨hb1.os, hb1.tape, hb1.output, hb1.size, fun k hk ho => hb1.block k hk (by omega)⟩
  clear k0 k1 k2 k3 k4 k5 k6 k7 k8 k9 k10 k11 k12 A hb1 t1 p0 m0 o0 o1 hA
  obtain ⟨k0, k1, k2, k3, k4, k5, k6, k7, k8, k9, k10, k11, k12⟩ := A1.cells13
  obtain ⟨f1, m1, r1⟩ := q1.mine
  have hwa : (wtMemS ms : Int) + (wtWrS ds : Int) ≤ 2097152 := by unfold wtArr at hw; omega
  go_wp2_with fail
  refine (markEntS_fp _ _ _ _ ds (1 + (cntMS ms : Int)) f1 m1 hw1 (by omega) (by omega)).mono ?_
  rintro e w2 ⟨rfl, p1, t2⟩
  have hb2 := t2.but (lo := m) (hi := hi) r1
  have s1 := hidden (p1.own r1)
  have s0 := hidden (q0.but hb2 (.inl (Nat.le_refl _)))
  have B2 := hidden (B1.trans ⟨hb2.os, hb2.tape, hb2.output, hb2.size, fun k hk ho => hb2.block k hk (by omega)⟩)
  clear k0 k1 k2 k3 k4 k5 k6 k7 k8 k9 k10 k11 k12 A1 hb2 t2 p1 m1 q0 q1 B1
  go_wp2
  go_ret
  exact ⟨rfl, s0.out, s1.out, B2.out⟩

end Go.Proofs.Ytfimpohbpccjaaa
