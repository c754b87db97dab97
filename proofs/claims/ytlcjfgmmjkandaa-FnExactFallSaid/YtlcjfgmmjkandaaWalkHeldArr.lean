/-
  The walks of the laws' helpers that ask whether the marks of an array's disks, and of the array, are held. Conditions: it weighs at most 2097152, the marks from 0 on to 2097153.
-/
import Derived.Test.YtlcjfgmmjkandaaWalkMarkArr
namespace Go.Proofs.Ytlcjfgmmjkandaa
open Go.RowKit

set_option maxRecDepth 20000 in
set_option maxHeartbeats 1600000 in
theorem heldMemS_any (w : World) (E F : TypeId) (a : Option Addr) (n cap : Nat) (d : List MemD) (k0 : Int) (h : (tMemS E F).Rd w [.slice a n cap] (markMS k0 d)) (hw : wtMemS d ≤ 2097152) (hk : 0 ≤ k0) (hk' : k0 + (wtMemS d : Int) ≤ 2097153) :
    Calls Try.prog 23 #[.slice a n cap, .int .i64 k0] w fun e w' => e = .returned (.int .i64 (k0 + (cntMS d : Int))) ∧ Same w w' := by
  obtain ⟨hl, hc, hm⟩ := row_length h
  have hmL : (markMS k0 d).length = d.length := markL_length _ _ _ _
  rw [hmL] at hl
  have hnn : n ≤ 2097152 := by unfold wtMemS at hw; omega
  have hwt := cntMS_le d
  go_enter Try.func23, Try.ntmps23
  go_wp2
  go_loopw [1, 5] (fun kk i wr => ∃ j : Nat, j ≤ n ∧ i = .int .i64 j ∧ kk = .int .i64 (k0 + (sumL ((d.map cntMD).take j) : Int)) ∧ Same w wr) (fun _ i _ => n - (intOf i).toNat)
  case atStart => exact ⟨0, Nat.zero_le _, rfl, by simp [sumL], Same.refl _⟩
  case round =>
    obtain ⟨j, hj, rfl, rfl, hs⟩ := hrel
    by_cases hjn : j < n
    · have hdj : d[j]? = some (d[j]'(by omega)) := List.getElem?_eq_getElem (by omega)
      generalize d[j]'(by omega) = x at hdj
      have hst := sumL_take (l := d.map cntMD) (j := j) (x := cntMD x) (by rw [List.getElem?_map, hdj]; rfl)
      have hle := sumL_le (l := d.map cntMD) (j + 1)
      have hin := Nat.le_trans (inner_leM hdj) hw
      unfold cntMS at hwt
      have hmj := markL_at (c := cntMD) (mk := markMD) (k := k0) hdj
      have HW := hidden hst
      generalize sumL ((d.map cntMD).take j) = S at hst hmj HW
      rcases quads_at rfl h with h0' | ⟨b, off, rfl, hbl, hcs⟩
      · omega
      obtain ⟨v0, v1, v2, v3, hv0, hv1, hv2, hv3, hrv⟩ := hcs j _ hmj
      obtain ⟨ss, cs, f, bs⟩ := x
      obtain ⟨a0, c0, a1, c1, a3, c3, ss', cs', f', bs', hx, rfl, rfl, rfl, rfl, r0, r1, r3⟩ := mem_at hrv
      have hcx : cntMD (ss, cs, f, bs) = cntSS ss + cntWS cs + 1 + bs.length := rfl
      have hin0 : wtIntSS ss ≤ 2097152 := by unfold wtMem at hin; simp only at hin; omega
      have hin1 : wtWrS cs ≤ 2097152 := by unfold wtMem at hin; simp only at hin; omega
      have hin3 : bs.length ≤ 2097152 := by unfold wtMem at hin; simp only at hin; omega
      have hcw := Nat.le_of_eq (cntWS_wt cs)
      have hcw' := Nat.le_of_eq (cntWS_wt cs).symm
      have hS : k0 + (S : Int) + (cntSS ss : Int) + (cntWS cs : Int) + 1 + (bs.length : Int) ≤ 2097153 := by omega
      unfold markMD at hx
      simp only [Prod.mk.injEq] at hx
      obtain ⟨e0, e1, e2, e3⟩ := hx
      subst e0
      subst e1
      subst e3
      rw [marks_length] at hv3 r3
      have w0 := (hs.cell _).trans hv0
      have w1 := (hs.cell _).trans hv1
      have w2 := (hs.cell _).trans hv2
      have w3 := (hs.cell _).trans hv3
      have HE2 := hidden e2
      have i1 : (0 : Int) ≤ (j : Int) := by omega
      have i2 : (j : Int) < (n : Int) := by omega
      have R0 := r0.same hs
      have R1 := r1.same hs
      have R3 := r3.same hs
      clear hcs hst hdj hv0 hv1 hv2 hv3 hrv hmj e2 r0 r1 r3
      go_wp2_with fail
      refine (heldIntSS_any _ _ _ _ ss _ R0 hin0 (by omega) (by omega)).mono ?_
      rintro e u1 ⟨rfl, s1⟩
      have w1' := (s1.cell _).trans w1
      have w2' := (s1.cell _).trans w2
      have w3' := (s1.cell _).trans w3
      have R1' := R1.same s1
      have R3' := R3.same s1
      clear w0 w1 w2 w3 R0 R1 R3
      have p1 : ¬ k0 + (S : Int) + (cntSS ss : Int) < 0 := by omega
      go_wp2_with fail
      refine (heldWrS_any _ E _ _ _ cs _ R1' hin1 (by omega) (by omega)).mono ?_
      rintro e u2 ⟨rfl, s2⟩
      have w2 := (s2.cell _).trans w2'
      have w3 := (s2.cell _).trans w3'
      have R3 := ints_rd (R3'.same s2)
      clear w1' w2' w3' R1' R3'
      have hK : 0 ≤ k0 + (S : Int) + (cntSS ss : Int) + (cntWS cs : Int) ∧ k0 + (S : Int) + (cntSS ss : Int) + (cntWS cs : Int) ≤ 2097153 := by omega
      have HKK : Hid (k0 + (S : Int) + (cntSS ss : Int) + (cntWS cs : Int) + 1 + (bs.length : Int) = k0 + ((S + cntMD (ss, cs, f, bs) : Nat) : Int)) := by unfold Hid; rw [hcx]; omega
      generalize hKd : k0 + (S : Int) + (cntSS ss : Int) + (cntWS cs : Int) = K at hK HKK HE2 R3 hS ⊢
      clear hKd
      have p2 : ¬ K < 0 := by omega
      have t1 : K.tmod 3 = K % 3 := Int.tmod_eq_emod_of_nonneg hK.1
      have t2 : IntKind.i64.wrap (K % 3) = K % 3 := IntWalk.i64_in _ (by omega)
      have t3 : IntKind.i64.wrap (K + 1) = K + 1 := IntWalk.i64_in _ (by omega)
      have p3 : ¬ K + 1 + (bs.length : Int) < 0 := by omega
      have t4 : f' = (K % 3 == 0) := by rw [← HE2.out]; rfl
      have t5 : ((K % 3 == 0) != (K % 3 == 0)) = false := by simp
      have t6 : ((K % 3 == 0) == (K % 3 == 0)) = true := by simp
      subst t4
      clear HE2
      go_wp2_with fail
      refine (heldIntS_any _ _ _ _ _ R3.1 (by omega) (by omega) (by omega)).mono ?_
      rintro e u3 ⟨rfl, s3⟩
      have HS := hidden (((hs.trans s1).trans s2).trans s3)
      clear s1 s2 s3 hs R3 w2 w3
      go_wp2
      go_roundw
      case rel => exact ⟨j + 1, by omega, by go_num, by rw [HW.out, HKK.out], HS.out⟩
      case measure => simp [intOf]; omega
    · have ej : j = n := by omega
      subst ej
      have ht : (d.map cntMD).take j = d.map cntMD := List.take_of_length_le (by simp; omega)
      have HT : Hid (k0 + (sumL ((d.map cntMD).take j) : Int) = k0 + (cntMS d : Int)) := by unfold Hid cntMS; rw [ht]
      clear ht
      go_wp2
      go_ret
      exact ⟨ret_int HT.out, hs⟩

set_option maxRecDepth 20000 in
set_option maxHeartbeats 1600000 in
theorem heldArr_any (w : World) (E F G : TypeId) (x : ArrN) (bm bd : Option Addr) (nm cm nd cd : Nat) (ms : List MemD) (ds : List (Int × List Int)) (h0 : (tMemS E F).Rd w [.slice bm nm cm] (markMS 1 ms)) (h1 : (tWrS G).Rd w [.slice bd nd cd] (markW (1 + (cntMS ms : Int)) ds)) (hw : wtArr ms ds ≤ 2097152) :
    Calls Try.prog 13 #[.agg #[.int .i64 x.id, .int .i64 x.n, .int .i64 x.s, .slice bm nm cm, .int .i64 x.lost, .int .i64 x.built, .int .i64 x.seq, .int .i64 x.tail, .int .i64 x.gen, .slice bd nd cd, .int .i64 x.fuse, .bool x.down, .bool x.broken], .int .i64 1] w fun e w' => e = .returned (.int .i64 (1 + (cntMS ms : Int) + (cntWS ds : Int))) ∧ Below w.heap.size w w' := by
  have hw0 : wtMemS ms ≤ 2097152 := by unfold wtArr at hw; omega
  have hw1 : wtWrS ds ≤ 2097152 := by unfold wtArr at hw; omega
  have hws : wtMemS ms + wtWrS ds ≤ 2097152 := by unfold wtArr at hw; omega
  have hcm := cntMS_le ms
  have hA := new_below w (.cells #[.int .i64 x.id, .int .i64 x.n, .int .i64 x.s, .slice bm nm cm, .int .i64 x.lost, .int .i64 x.built, .int .i64 x.seq, .int .i64 x.tail, .int .i64 x.gen, .slice bd nd cd, .int .i64 x.fuse, .bool x.down, .bool x.broken] 33)
  have X := Box.new w 33 #[.int .i64 x.id, .int .i64 x.n, .int .i64 x.s, .slice bm nm cm, .int .i64 x.lost, .int .i64 x.built, .int .i64 x.seq, .int .i64 x.tail, .int .i64 x.gen, .slice bd nd cd, .int .i64 x.fuse, .bool x.down, .bool x.broken]
  obtain ⟨k0, k1, k2, k3, k4, k5, k6, k7, k8, k9, k10, k11, k12⟩ := X.cells13
  have r0 := h0.below hA
  have r1 := h1.below hA
  go_enter Try.func13, Try.ntmps13
  go_wp2_with fail
  generalize w.alloc (.cells #[.int .i64 x.id, .int .i64 x.n, .int .i64 x.s, .slice bm nm cm, .int .i64 x.lost, .int .i64 x.built, .int .i64 x.seq, .int .i64 x.tail, .int .i64 x.gen, .slice bd nd cd, .int .i64 x.fuse, .bool x.down, .bool x.broken] 33) = W at hA X r0 r1 k0 k1 k2 k3 k4 k5 k6 k7 k8 k9 k10 k11 k12 ⊢
  refine (heldMemS_any _ E F _ _ _ ms _ r0 hw0 (by omega) (by omega)).mono ?_
  rintro e w1 ⟨rfl, s1⟩
  have X1 := X.same s1
  have r2 := r1.same s1
  have B1 := Below.andSame hA s1
  clear k0 k1 k2 k3 k4 k5 k6 k7 k8 k9 k10 k11 k12 X r0 r1 s1 hA
  obtain ⟨k0, k1, k2, k3, k4, k5, k6, k7, k8, k9, k10, k11, k12⟩ := X1.cells13
  have p1 : ¬ 1 + (cntMS ms : Int) < 0 := by omega
  go_wp2_with fail
  refine (heldEntS_any _ G _ _ _ ds _ r2 hw1 (by omega) (by omega)).mono ?_
  rintro e w2 ⟨rfl, s2⟩
  have B2 := Below.andSame B1 s2
  have p2 : ¬ 1 + (cntMS ms : Int) + (cntWS ds : Int) < 0 := by omega
  clear k0 k1 k2 k3 k4 k5 k6 k7 k8 k9 k10 k11 k12 X1 r2 s2 B1
  go_wp2
  go_ret
  exact ⟨rfl, B2⟩

end Go.Proofs.Ytlcjfgmmjkandaa
