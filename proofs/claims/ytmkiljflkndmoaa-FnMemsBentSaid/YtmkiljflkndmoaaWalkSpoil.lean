/-
  The walk of the program's SpoilSec: one sector more that can't be read, among the others, in memory of its own; else the disk as it was. Condition: the disk weighs at most 2097152.
-/
import Derived.Test.YtmkiljflkndmoaaWalkInsert
import Derived.Test.YtmkiljflkndmoaaWalkSearch
namespace Go.Proofs.Ytmkiljflkndmoaa
open Go.RowKit


set_option maxHeartbeats 6400000 in
theorem implSpoilSec_any (w : World) (E : TypeId) (a0 a1 a3 : Option Addr) (n0 c0 n1 c1 n3 c3 : Nat) (ss : List (List Int)) (cs : List (Int × List Int)) (f : Bool) (bs : List Int) (n : Int) (h0 : tIntSS.Rd w [.slice a0 n0 c0] ss) (h1 : (tWrS E).Rd w [.slice a1 n1 c1] cs) (h3 : tIntS.Rd w [.slice a3 n3 c3] bs) (hw : wtMem (ss, cs, f, bs) ≤ 2097152) :
    Calls Try.prog 44 #[.agg #[.slice a0 n0 c0, .slice a1 n1 c1, .bool f, .slice a3 n3 c3], .int .i64 n] w fun e w' => ∃ v0 v1 v3, e = .returned (.agg #[v0, v1, .bool f, v3]) ∧ (tMem 57).Own w' w.heap.size w'.heap.size [v0, v1, .bool f, v3] (ss, cs, f, spBS ss cs bs n) ∧ Below w.heap.size w w' := by
  obtain ⟨hl0, _, hm0⟩ := row_length h0
  obtain ⟨hl1, _, hm1⟩ := row_length h1
  obtain ⟨hl3, _, hm3⟩ := row_length h3
  have hw3 : n3 ≤ 2097152 := by unfold wtMem at hw; simp only at hw; omega
  by_cases hM : memB ss cs bs = true
  · by_cases hI : inB n 0 ((n0 : Int) - 1) = true
    · by_cases hH : inL bs n = true
      · have hok : spOk ss cs bs n = false := by unfold spOk; simp [hH]
        have e1 : spBS ss cs bs n = bs := by unfold spBS; rw [hok]; rfl
        rw [e1]
        clear hok e1
        have hA : Below w.heap.size w ((w.alloc (.cells #[.slice a0 n0 c0, .slice a1 n1 c1, .bool f, .slice a3 n3 c3] 44)).alloc (.cells #[.slice none 0 0, .slice none 0 0, .bool false, .slice none 0 0] 44)) := ((Below.refl _ _).alloc (Nat.le_refl _) _).alloc (by simp) _
        have xm : Box ((w.alloc (.cells #[.slice a0 n0 c0, .slice a1 n1 c1, .bool f, .slice a3 n3 c3] 44)).alloc (.cells #[.slice none 0 0, .slice none 0 0, .bool false, .slice none 0 0] 44)) w.heap.size 44 #[.slice a0 n0 c0, .slice a1 n1 c1, .bool f, .slice a3 n3 c3] := (Box.new w _ _).alloc _
        have xr : Box ((w.alloc (.cells #[.slice a0 n0 c0, .slice a1 n1 c1, .bool f, .slice a3 n3 c3] 44)).alloc (.cells #[.slice none 0 0, .slice none 0 0, .bool false, .slice none 0 0] 44)) (w.heap.size + 1) 44 #[.slice none 0 0, .slice none 0 0, .bool false, .slice none 0 0] := by
          have := Box.new (w.alloc (.cells #[.slice a0 n0 c0, .slice a1 n1 c1, .bool f, .slice a3 n3 c3] 44)) 44 #[.slice none 0 0, .slice none 0 0, .bool false, .slice none 0 0]
          rw [show (w.alloc (.cells #[.slice a0 n0 c0, .slice a1 n1 c1, .bool f, .slice a3 n3 c3] 44)).heap.size = w.heap.size + 1 by simp] at this
          exact this
        go_enter Try.func44, Try.ntmps44
        go_wp2_with fail
        generalize hW : (w.alloc (.cells #[.slice a0 n0 c0, .slice a1 n1 c1, .bool f, .slice a3 n3 c3] 44)).alloc (.cells #[.slice none 0 0, .slice none 0 0, .bool false, .slice none 0 0] 44) = W at hA xm xr ⊢
        clear hW
        have zr := xr.lt
        have B0 := hidden hA
        clear hA
        have XM0 := hidden xm
        clear xm
        have XR0 := hidden xr
        clear xr
        refine (copyMem_any _ E _ _ _ _ _ _ _ _ _ ss cs f bs (h0.below B0.out) (h1.below B0.out) (h3.below B0.out) hw).mono ?_
        intro e w1 hc
        obtain ⟨b0, b1, b3, e0, e1, e3, m1, m2, rfl, o3, o0, o1, r1, r2, r3, hb1⟩ := copy_shapes hl0 hl1 hl3 hc
        clear hc
        have B1 := hidden (Below.andThen B0.out hb1)
        have XM1 := hidden (XM0.out.below hb1 (by omega))
        have XR1 := hidden (XR0.out.below hb1 (by omega))
        have z1 := hb1.size
        clear B0 XM0 XR0 hb1
        have S1 := hidden o0
        clear o0
        have C1 := hidden o1
        clear o1
        have D1 := hidden o3
        clear o3
        have ba : Below w1.heap.size w1 (w1.alloc (.cells #[.slice b0 n0 e0, .slice b1 n1 e1, .bool f, .slice b3 n3 e3] 44)) := (Below.refl _ _).alloc (Nat.le_refl _) _
        have yo := Box.new w1 44 #[.slice b0 n0 e0, .slice b1 n1 e1, .bool f, .slice b3 n3 e3]
        have zo := yo.lt
        have B2 := hidden (Below.andThen B1.out ba)
        have XM2 := hidden (XM1.out.below ba (by omega))
        have XR2 := hidden (XR1.out.below ba (by omega))
        have S2 := hidden (S1.out.below ba)
        have C2 := hidden (C1.out.below ba)
        have D2 := hidden (D1.out.below ba)
        have z2 := ba.size
        clear B1 XM1 XR1 S1 C1 D1 ba
        have XO2 := hidden yo
        clear yo
        have sW : w.heap.size + 1 < W.heap.size := zr
        obtain ⟨q0, q1, q2, q3⟩ := XM2.out.cells4
        go_wp2_with fail
        generalize w1.alloc (.cells #[.slice b0 n0 e0, .slice b1 n1 e1, .bool f, .slice b3 n3 e3] 44) = w2 at B2 XM2 XR2 S2 C2 D2 XO2 z2 zo q0 q1 q2 q3 ⊢
        refine (implMemOk_any _ E _ _ _ _ _ _ _ _ _ ss cs f bs (h0.below B2.out) (h1.below B2.out) (h3.below B2.out) hw).mono ?_
        rintro e w3 ⟨rfl, hb3⟩
        clear q0 q1 q2 q3
        have B3 := hidden (Below.andThen B2.out hb3)
        have XM3 := hidden (XM2.out.below hb3 (by omega))
        have XR3 := hidden (XR2.out.below hb3 (by omega))
        have S3 := hidden (S2.out.below hb3)
        have C3 := hidden (C2.out.below hb3)
        have D3 := hidden (D2.out.below hb3)
        have XO3 := hidden (XO2.out.below hb3 (by omega))
        have z3 := hb3.size
        clear B2 XM2 XR2 S2 C2 D2 XO2 hb3
        obtain ⟨q0, q1, q2, q3⟩ := XM3.out.cells4
        go_wp2_with fail
        refine (hasSec_any _ _ _ _ _ _ _ _).mono ?_
        rintro e w4 ⟨rfl, hb4⟩
        clear q0 q1 q2 q3
        have B4 := hidden (Below.andThen B3.out hb4)
        have XM4 := hidden (XM3.out.below hb4 (by omega))
        have XR4 := hidden (XR3.out.below hb4 (by omega))
        have S4 := hidden (S3.out.below hb4)
        have C4 := hidden (C3.out.below hb4)
        have D4 := hidden (D3.out.below hb4)
        have XO4 := hidden (XO3.out.below hb4 (by omega))
        have z4 := hb4.size
        clear B3 XM3 XR3 S3 C3 D3 XO3 hb4
        obtain ⟨x0, x1, x2, x3⟩ := XO4.out.cells4
        go_wp2_with fail
        refine (search_any _ _ _ _ bs n hl3 (ints_rd D4.out.rd).1 hw3 (bad_lt hM)).mono ?_
        rintro e w5 ⟨k, rfl, hk, hlo, hhi, hs5⟩
        have HLO := hidden hlo
        have HHI := hidden hhi
        clear hlo hhi
        clear x0 x1 x2 x3
        have B5 := hidden (Below.andSame B4.out hs5)
        have XM5 := hidden (XM4.out.same hs5)
        have XR5 := hidden (XR4.out.same hs5)
        have S5 := hidden (S4.out.same hs5)
        have C5 := hidden (C4.out.same hs5)
        have D5 := hidden (D4.out.same hs5)
        have XO5 := hidden (XO4.out.same hs5)
        have z5 := Nat.le_of_eq hs5.size.symm
        clear B4 XM4 XR4 S4 C4 D4 XO4 hs5
        obtain ⟨x0, x1, x2, x3⟩ := XO5.out.cells4
        obtain ⟨p0, p1, p2, p3⟩ := XR5.out.cells4
        have fz := XR5.out.frozen
        have hbt : But (w.heap.size + 1) (w.heap.size + 1 + 1) w5 ((((w5.setCell ⟨w.heap.size + 1, 0, none⟩ (.slice b0 n0 e0)).setCell ⟨w.heap.size + 1, 1, none⟩ (.slice b1 n1 e1)).setCell ⟨w.heap.size + 1, 2, none⟩ (.bool f)).setCell ⟨w.heap.size + 1, 3, none⟩ (.slice b3 n3 e3)) :=
          (((But.setCell (by omega) (by omega) _).trans (But.setCell (by omega) (by omega) _)).trans (But.setCell (by omega) (by omega) _)).trans (But.setCell (by omega) (by omega) _)
        have z99 := hbt.size
        have FIN : Hid ((tMem 57).Own ((((w5.setCell ⟨w.heap.size + 1, 0, none⟩ (.slice b0 n0 e0)).setCell ⟨w.heap.size + 1, 1, none⟩ (.slice b1 n1 e1)).setCell ⟨w.heap.size + 1, 2, none⟩ (.bool f)).setCell ⟨w.heap.size + 1, 3, none⟩ (.slice b3 n3 e3)) w.heap.size ((((w5.setCell ⟨w.heap.size + 1, 0, none⟩ (.slice b0 n0 e0)).setCell ⟨w.heap.size + 1, 1, none⟩ (.slice b1 n1 e1)).setCell ⟨w.heap.size + 1, 2, none⟩ (.bool f)).setCell ⟨w.heap.size + 1, 3, none⟩ (.slice b3 n3 e3)).heap.size [.slice b0 n0 e0, .slice b1 n1 e1, .bool f, .slice b3 n3 e3] (ss, cs, f, bs)) := mem_own3 (S5.out.but hbt (by omega)) (C5.out.but hbt (by omega)) (D5.out.but hbt (by omega)) (by omega) (by omega) (by omega) (by omega) (by omega) (by omega)
        have FB := hidden (Below.andBut B5.out hbt (by omega))
        clear hbt
        go_wp2
        refine bodyPost_ret (v := .agg #[.slice b0 n0 e0, .slice b1 n1 e1, .bool f, .slice b3 n3 e3]) (by simp [results, Try.results44, go_sem, p0, p1, p2, p3]) rfl ?_
        exact ⟨_, _, _, rfl, FIN.out, FB.out⟩
      · have hH : inL bs n = false := by simpa using hH
        have hok : spOk ss cs bs n = true := by unfold spOk; rw [hM, hl0, hI, hH]; rfl
        have e1 : spBS ss cs bs n = insD bs n := by unfold spBS; rw [hok]; rfl
        rw [e1]
        clear hok e1
        have hA : Below w.heap.size w ((w.alloc (.cells #[.slice a0 n0 c0, .slice a1 n1 c1, .bool f, .slice a3 n3 c3] 44)).alloc (.cells #[.slice none 0 0, .slice none 0 0, .bool false, .slice none 0 0] 44)) := ((Below.refl _ _).alloc (Nat.le_refl _) _).alloc (by simp) _
        have xm : Box ((w.alloc (.cells #[.slice a0 n0 c0, .slice a1 n1 c1, .bool f, .slice a3 n3 c3] 44)).alloc (.cells #[.slice none 0 0, .slice none 0 0, .bool false, .slice none 0 0] 44)) w.heap.size 44 #[.slice a0 n0 c0, .slice a1 n1 c1, .bool f, .slice a3 n3 c3] := (Box.new w _ _).alloc _
        have xr : Box ((w.alloc (.cells #[.slice a0 n0 c0, .slice a1 n1 c1, .bool f, .slice a3 n3 c3] 44)).alloc (.cells #[.slice none 0 0, .slice none 0 0, .bool false, .slice none 0 0] 44)) (w.heap.size + 1) 44 #[.slice none 0 0, .slice none 0 0, .bool false, .slice none 0 0] := by
          have := Box.new (w.alloc (.cells #[.slice a0 n0 c0, .slice a1 n1 c1, .bool f, .slice a3 n3 c3] 44)) 44 #[.slice none 0 0, .slice none 0 0, .bool false, .slice none 0 0]
          rw [show (w.alloc (.cells #[.slice a0 n0 c0, .slice a1 n1 c1, .bool f, .slice a3 n3 c3] 44)).heap.size = w.heap.size + 1 by simp] at this
          exact this
        go_enter Try.func44, Try.ntmps44
        go_wp2_with fail
        generalize hW : (w.alloc (.cells #[.slice a0 n0 c0, .slice a1 n1 c1, .bool f, .slice a3 n3 c3] 44)).alloc (.cells #[.slice none 0 0, .slice none 0 0, .bool false, .slice none 0 0] 44) = W at hA xm xr ⊢
        clear hW
        have zr := xr.lt
        have B0 := hidden hA
        clear hA
        have XM0 := hidden xm
        clear xm
        have XR0 := hidden xr
        clear xr
        refine (copyMem_any _ E _ _ _ _ _ _ _ _ _ ss cs f bs (h0.below B0.out) (h1.below B0.out) (h3.below B0.out) hw).mono ?_
        intro e w1 hc
        obtain ⟨b0, b1, b3, e0, e1, e3, m1, m2, rfl, o3, o0, o1, r1, r2, r3, hb1⟩ := copy_shapes hl0 hl1 hl3 hc
        clear hc
        have B1 := hidden (Below.andThen B0.out hb1)
        have XM1 := hidden (XM0.out.below hb1 (by omega))
        have XR1 := hidden (XR0.out.below hb1 (by omega))
        have z1 := hb1.size
        clear B0 XM0 XR0 hb1
        have S1 := hidden o0
        clear o0
        have C1 := hidden o1
        clear o1
        have D1 := hidden o3
        clear o3
        have ba : Below w1.heap.size w1 (w1.alloc (.cells #[.slice b0 n0 e0, .slice b1 n1 e1, .bool f, .slice b3 n3 e3] 44)) := (Below.refl _ _).alloc (Nat.le_refl _) _
        have yo := Box.new w1 44 #[.slice b0 n0 e0, .slice b1 n1 e1, .bool f, .slice b3 n3 e3]
        have zo := yo.lt
        have B2 := hidden (Below.andThen B1.out ba)
        have XM2 := hidden (XM1.out.below ba (by omega))
        have XR2 := hidden (XR1.out.below ba (by omega))
        have S2 := hidden (S1.out.below ba)
        have C2 := hidden (C1.out.below ba)
        have D2 := hidden (D1.out.below ba)
        have z2 := ba.size
        clear B1 XM1 XR1 S1 C1 D1 ba
        have XO2 := hidden yo
        clear yo
        have sW : w.heap.size + 1 < W.heap.size := zr
        obtain ⟨q0, q1, q2, q3⟩ := XM2.out.cells4
        go_wp2_with fail
        generalize w1.alloc (.cells #[.slice b0 n0 e0, .slice b1 n1 e1, .bool f, .slice b3 n3 e3] 44) = w2 at B2 XM2 XR2 S2 C2 D2 XO2 z2 zo q0 q1 q2 q3 ⊢
        refine (implMemOk_any _ E _ _ _ _ _ _ _ _ _ ss cs f bs (h0.below B2.out) (h1.below B2.out) (h3.below B2.out) hw).mono ?_
        rintro e w3 ⟨rfl, hb3⟩
        clear q0 q1 q2 q3
        have B3 := hidden (Below.andThen B2.out hb3)
        have XM3 := hidden (XM2.out.below hb3 (by omega))
        have XR3 := hidden (XR2.out.below hb3 (by omega))
        have S3 := hidden (S2.out.below hb3)
        have C3 := hidden (C2.out.below hb3)
        have D3 := hidden (D2.out.below hb3)
        have XO3 := hidden (XO2.out.below hb3 (by omega))
        have z3 := hb3.size
        clear B2 XM2 XR2 S2 C2 D2 XO2 hb3
        obtain ⟨q0, q1, q2, q3⟩ := XM3.out.cells4
        go_wp2_with fail
        refine (hasSec_any _ _ _ _ _ _ _ _).mono ?_
        rintro e w4 ⟨rfl, hb4⟩
        clear q0 q1 q2 q3
        have B4 := hidden (Below.andThen B3.out hb4)
        have XM4 := hidden (XM3.out.below hb4 (by omega))
        have XR4 := hidden (XR3.out.below hb4 (by omega))
        have S4 := hidden (S3.out.below hb4)
        have C4 := hidden (C3.out.below hb4)
        have D4 := hidden (D3.out.below hb4)
        have XO4 := hidden (XO3.out.below hb4 (by omega))
        have z4 := hb4.size
        clear B3 XM3 XR3 S3 C3 D3 XO3 hb4
        obtain ⟨x0, x1, x2, x3⟩ := XO4.out.cells4
        go_wp2_with fail
        refine (search_any _ _ _ _ bs n hl3 (ints_rd D4.out.rd).1 hw3 (bad_lt hM)).mono ?_
        rintro e w5 ⟨k, rfl, hk, hlo, hhi, hs5⟩
        have HLO := hidden hlo
        have HHI := hidden hhi
        clear hlo hhi
        clear x0 x1 x2 x3
        have B5 := hidden (Below.andSame B4.out hs5)
        have XM5 := hidden (XM4.out.same hs5)
        have XR5 := hidden (XR4.out.same hs5)
        have S5 := hidden (S4.out.same hs5)
        have C5 := hidden (C4.out.same hs5)
        have D5 := hidden (D4.out.same hs5)
        have XO5 := hidden (XO4.out.same hs5)
        have z5 := Nat.le_of_eq hs5.size.symm
        clear B4 XM4 XR4 S4 C4 D4 XO4 hs5
        obtain ⟨x0, x1, x2, x3⟩ := XO5.out.cells4
        go_wp2_with fail
        clear x0 x1 x2 x3
        have HI : Hid (insD bs n = bs.take k ++ n :: bs.drop k) := ins_eq (fun x hx => Int.le_of_lt (HLO.out x hx)) (fun x hx => by
          have h1 := HHI.out x hx
          have h2 : x ≠ n := fun e => by
            have : inL bs n = true := by
              unfold inL
              rw [List.any_eq_true]
              exact ⟨x, List.mem_of_mem_drop hx, decide_eq_true e⟩
            rw [hH] at this
            cases this
          omega) (by omega)
        clear HLO HHI
        have ba : Below w5.heap.size w5 (w5.alloc (.cells #[.int .i64 n] 3)) := (Below.refl _ _).alloc (Nat.le_refl _) _
        have yv := Box.new w5 3 #[.int .i64 n]
        have zv := yv.lt
        have B6 := hidden (Below.andThen B5.out ba)
        have XM6 := hidden (XM5.out.below ba (by omega))
        have XR6 := hidden (XR5.out.below ba (by omega))
        have S6 := hidden (S5.out.below ba)
        have C6 := hidden (C5.out.below ba)
        have D6 := hidden (D5.out.below ba)
        have XO6 := hidden (XO5.out.below ba (by omega))
        have z6 := ba.size
        clear B5 XM5 XR5 S5 C5 D5 XO5 ba
        have YV := hidden yv
        clear yv
        generalize w5.alloc (.cells #[.int .i64 n] 3) = w6 at B6 XM6 XR6 S6 C6 D6 XO6 z6 zv YV ⊢
        refine (insert_any _ W.heap.size m1 b3 n3 e3 bs k n w5.heap.size 3 D6.out YV.out (.inr (by omega)) hk hw3).mono ?_
        rintro e wb ⟨d3, f3, l7, u7, rfl, od, hlu, hbB⟩
        rw [← HI.out] at od
        clear HI YV
        have zb := hbB.size
        have xob : Box wb w1.heap.size 44 _ := XO6.out.kept (hbB.block _ (by omega) (by omega))
        obtain ⟨x0, x1, x2, x3⟩ := xob.cells4
        have fz := xob.frozen 3
        have XOB := hidden xob
        have OD := hidden od
        have HBB := hidden hbB
        clear xob od hbB
        have bs9 := But.setCell (lo := w1.heap.size) (hi := w1.heap.size + 1) (g := w1.heap.size) (j := 3) (w := wb) (Nat.le_refl _) (Nat.lt_succ_self _) (.slice d3 (n3 + 1) f3)
        have zt := bs9.size
        have YZ := hidden (XOB.out.set 3 (.slice d3 (n3 + 1) f3))
        have D7 := hidden (OD.out.but bs9 (by omega))
        have S7 := hidden ((S6.out.but HBB.out (by omega)).but bs9 (by omega))
        have C7 := hidden ((C6.out.but HBB.out (by omega)).but bs9 (by omega))
        have XR7 := hidden ((XR6.out.kept (HBB.out.block _ (by omega) (by omega))).kept (bs9.block _ (by omega) (by omega)))
        have B7 := hidden (Below.andBut (Below.andBut B6.out HBB.out (by omega)) bs9 (by omega))
        have z7 : w6.heap.size ≤ (wb.setCell ⟨w1.heap.size, 3, none⟩ (.slice d3 (n3 + 1) f3)).heap.size := by omega
        have hlu7 : (l7 = W.heap.size ∧ u7 = m1) ∨ (w6.heap.size ≤ l7 ∧ u7 ≤ (wb.setCell ⟨w1.heap.size, 3, none⟩ (.slice d3 (n3 + 1) f3)).heap.size) := by omega
        clear bs9 zt zb hlu XOB OD HBB B6 XM6 XR6 S6 C6 D6 XO6
        obtain ⟨t0, t1, t2, t3⟩ := Box.cells4 (v0 := .slice b0 n0 e0) (v1 := .slice b1 n1 e1) (v2 := .bool f) (v3 := .slice d3 (n3 + 1) f3) YZ.out
        obtain ⟨p0, p1, p2, p3⟩ := XR7.out.cells4
        have fr := XR7.out.frozen
        go_wp2
        generalize (wb.setCell ⟨w1.heap.size, 3, none⟩ (.slice d3 (n3 + 1) f3)) = w7 at B7 S7 C7 D7 XR7 YZ z7 hlu7 p0 p1 p2 p3 fr t0 t1 t2 t3 ⊢
        have hbt : But (w.heap.size + 1) (w.heap.size + 1 + 1) w7 ((((w7.setCell ⟨w.heap.size + 1, 0, none⟩ (.slice b0 n0 e0)).setCell ⟨w.heap.size + 1, 1, none⟩ (.slice b1 n1 e1)).setCell ⟨w.heap.size + 1, 2, none⟩ (.bool f)).setCell ⟨w.heap.size + 1, 3, none⟩ (.slice d3 (n3 + 1) f3)) :=
          (((But.setCell (by omega) (by omega) _).trans (But.setCell (by omega) (by omega) _)).trans (But.setCell (by omega) (by omega) _)).trans (But.setCell (by omega) (by omega) _)
        have z99 := hbt.size
        refine bodyPost_ret (v := .agg #[.slice b0 n0 e0, .slice b1 n1 e1, .bool f, .slice d3 (n3 + 1) f3]) (by simp [results, Try.results44, go_sem, p0, p1, p2, p3]) rfl ?_
        have FIN : Hid ((tMem 57).Own ((((w7.setCell ⟨w.heap.size + 1, 0, none⟩ (.slice b0 n0 e0)).setCell ⟨w.heap.size + 1, 1, none⟩ (.slice b1 n1 e1)).setCell ⟨w.heap.size + 1, 2, none⟩ (.bool f)).setCell ⟨w.heap.size + 1, 3, none⟩ (.slice d3 (n3 + 1) f3)) w.heap.size ((((w7.setCell ⟨w.heap.size + 1, 0, none⟩ (.slice b0 n0 e0)).setCell ⟨w.heap.size + 1, 1, none⟩ (.slice b1 n1 e1)).setCell ⟨w.heap.size + 1, 2, none⟩ (.bool f)).setCell ⟨w.heap.size + 1, 3, none⟩ (.slice d3 (n3 + 1) f3)).heap.size [.slice b0 n0 e0, .slice b1 n1 e1, .bool f, .slice d3 (n3 + 1) f3] (ss, cs, f, insD bs n)) := mem_own3 (S7.out.but hbt (by omega)) (C7.out.but hbt (by omega)) (D7.out.but hbt (by omega)) (by omega) (by omega) (by omega) (by omega) (by omega) (by omega)
        have FB := hidden (Below.andBut B7.out hbt (by omega))
        exact ⟨_, _, _, rfl, FIN.out, FB.out⟩
    · have hI : inB n 0 ((n0 : Int) - 1) = false := by simpa using hI
      have hI2 : inB n 0 ((ss.length : Int) - 1) = false := by rw [hl0]; exact hI
      have hok : spOk ss cs bs n = false := by unfold spOk; simp [hI2]
      have e1 : spBS ss cs bs n = bs := by unfold spBS; rw [hok]; rfl
      rw [e1]
      clear hok e1
      have hA : Below w.heap.size w ((w.alloc (.cells #[.slice a0 n0 c0, .slice a1 n1 c1, .bool f, .slice a3 n3 c3] 44)).alloc (.cells #[.slice none 0 0, .slice none 0 0, .bool false, .slice none 0 0] 44)) := ((Below.refl _ _).alloc (Nat.le_refl _) _).alloc (by simp) _
      have xm : Box ((w.alloc (.cells #[.slice a0 n0 c0, .slice a1 n1 c1, .bool f, .slice a3 n3 c3] 44)).alloc (.cells #[.slice none 0 0, .slice none 0 0, .bool false, .slice none 0 0] 44)) w.heap.size 44 #[.slice a0 n0 c0, .slice a1 n1 c1, .bool f, .slice a3 n3 c3] := (Box.new w _ _).alloc _
      have xr : Box ((w.alloc (.cells #[.slice a0 n0 c0, .slice a1 n1 c1, .bool f, .slice a3 n3 c3] 44)).alloc (.cells #[.slice none 0 0, .slice none 0 0, .bool false, .slice none 0 0] 44)) (w.heap.size + 1) 44 #[.slice none 0 0, .slice none 0 0, .bool false, .slice none 0 0] := by
        have := Box.new (w.alloc (.cells #[.slice a0 n0 c0, .slice a1 n1 c1, .bool f, .slice a3 n3 c3] 44)) 44 #[.slice none 0 0, .slice none 0 0, .bool false, .slice none 0 0]
        rw [show (w.alloc (.cells #[.slice a0 n0 c0, .slice a1 n1 c1, .bool f, .slice a3 n3 c3] 44)).heap.size = w.heap.size + 1 by simp] at this
        exact this
      go_enter Try.func44, Try.ntmps44
      go_wp2_with fail
      generalize hW : (w.alloc (.cells #[.slice a0 n0 c0, .slice a1 n1 c1, .bool f, .slice a3 n3 c3] 44)).alloc (.cells #[.slice none 0 0, .slice none 0 0, .bool false, .slice none 0 0] 44) = W at hA xm xr ⊢
      clear hW
      have zr := xr.lt
      have B0 := hidden hA
      clear hA
      have XM0 := hidden xm
      clear xm
      have XR0 := hidden xr
      clear xr
      refine (copyMem_any _ E _ _ _ _ _ _ _ _ _ ss cs f bs (h0.below B0.out) (h1.below B0.out) (h3.below B0.out) hw).mono ?_
      intro e w1 hc
      obtain ⟨b0, b1, b3, e0, e1, e3, m1, m2, rfl, o3, o0, o1, r1, r2, r3, hb1⟩ := copy_shapes hl0 hl1 hl3 hc
      clear hc
      have B1 := hidden (Below.andThen B0.out hb1)
      have XM1 := hidden (XM0.out.below hb1 (by omega))
      have XR1 := hidden (XR0.out.below hb1 (by omega))
      have z1 := hb1.size
      clear B0 XM0 XR0 hb1
      have S1 := hidden o0
      clear o0
      have C1 := hidden o1
      clear o1
      have D1 := hidden o3
      clear o3
      have ba : Below w1.heap.size w1 (w1.alloc (.cells #[.slice b0 n0 e0, .slice b1 n1 e1, .bool f, .slice b3 n3 e3] 44)) := (Below.refl _ _).alloc (Nat.le_refl _) _
      have yo := Box.new w1 44 #[.slice b0 n0 e0, .slice b1 n1 e1, .bool f, .slice b3 n3 e3]
      have zo := yo.lt
      have B2 := hidden (Below.andThen B1.out ba)
      have XM2 := hidden (XM1.out.below ba (by omega))
      have XR2 := hidden (XR1.out.below ba (by omega))
      have S2 := hidden (S1.out.below ba)
      have C2 := hidden (C1.out.below ba)
      have D2 := hidden (D1.out.below ba)
      have z2 := ba.size
      clear B1 XM1 XR1 S1 C1 D1 ba
      have XO2 := hidden yo
      clear yo
      have sW : w.heap.size + 1 < W.heap.size := zr
      obtain ⟨q0, q1, q2, q3⟩ := XM2.out.cells4
      go_wp2_with fail
      generalize w1.alloc (.cells #[.slice b0 n0 e0, .slice b1 n1 e1, .bool f, .slice b3 n3 e3] 44) = w2 at B2 XM2 XR2 S2 C2 D2 XO2 z2 zo q0 q1 q2 q3 ⊢
      refine (implMemOk_any _ E _ _ _ _ _ _ _ _ _ ss cs f bs (h0.below B2.out) (h1.below B2.out) (h3.below B2.out) hw).mono ?_
      rintro e w3 ⟨rfl, hb3⟩
      clear q0 q1 q2 q3
      have B3 := hidden (Below.andThen B2.out hb3)
      have XM3 := hidden (XM2.out.below hb3 (by omega))
      have XR3 := hidden (XR2.out.below hb3 (by omega))
      have S3 := hidden (S2.out.below hb3)
      have C3 := hidden (C2.out.below hb3)
      have D3 := hidden (D2.out.below hb3)
      have XO3 := hidden (XO2.out.below hb3 (by omega))
      have z3 := hb3.size
      clear B2 XM2 XR2 S2 C2 D2 XO2 hb3
      obtain ⟨q0, q1, q2, q3⟩ := XM3.out.cells4
      go_wp2_with fail
      refine (hasSec_any _ _ _ _ _ _ _ _).mono ?_
      rintro e w4 ⟨rfl, hb4⟩
      clear q0 q1 q2 q3
      have B4 := hidden (Below.andThen B3.out hb4)
      have XM4 := hidden (XM3.out.below hb4 (by omega))
      have XR4 := hidden (XR3.out.below hb4 (by omega))
      have S4 := hidden (S3.out.below hb4)
      have C4 := hidden (C3.out.below hb4)
      have D4 := hidden (D3.out.below hb4)
      have XO4 := hidden (XO3.out.below hb4 (by omega))
      have z4 := hb4.size
      clear B3 XM3 XR3 S3 C3 D3 XO3 hb4
      obtain ⟨x0, x1, x2, x3⟩ := XO4.out.cells4
      obtain ⟨p0, p1, p2, p3⟩ := XR4.out.cells4
      have fz := XR4.out.frozen
      have hbt : But (w.heap.size + 1) (w.heap.size + 1 + 1) w4 ((((w4.setCell ⟨w.heap.size + 1, 0, none⟩ (.slice b0 n0 e0)).setCell ⟨w.heap.size + 1, 1, none⟩ (.slice b1 n1 e1)).setCell ⟨w.heap.size + 1, 2, none⟩ (.bool f)).setCell ⟨w.heap.size + 1, 3, none⟩ (.slice b3 n3 e3)) :=
        (((But.setCell (by omega) (by omega) _).trans (But.setCell (by omega) (by omega) _)).trans (But.setCell (by omega) (by omega) _)).trans (But.setCell (by omega) (by omega) _)
      have z99 := hbt.size
      have FIN : Hid ((tMem 57).Own ((((w4.setCell ⟨w.heap.size + 1, 0, none⟩ (.slice b0 n0 e0)).setCell ⟨w.heap.size + 1, 1, none⟩ (.slice b1 n1 e1)).setCell ⟨w.heap.size + 1, 2, none⟩ (.bool f)).setCell ⟨w.heap.size + 1, 3, none⟩ (.slice b3 n3 e3)) w.heap.size ((((w4.setCell ⟨w.heap.size + 1, 0, none⟩ (.slice b0 n0 e0)).setCell ⟨w.heap.size + 1, 1, none⟩ (.slice b1 n1 e1)).setCell ⟨w.heap.size + 1, 2, none⟩ (.bool f)).setCell ⟨w.heap.size + 1, 3, none⟩ (.slice b3 n3 e3)).heap.size [.slice b0 n0 e0, .slice b1 n1 e1, .bool f, .slice b3 n3 e3] (ss, cs, f, bs)) := mem_own3 (S4.out.but hbt (by omega)) (C4.out.but hbt (by omega)) (D4.out.but hbt (by omega)) (by omega) (by omega) (by omega) (by omega) (by omega) (by omega)
      have FB := hidden (Below.andBut B4.out hbt (by omega))
      clear hbt
      go_wp2
      refine bodyPost_ret (v := .agg #[.slice b0 n0 e0, .slice b1 n1 e1, .bool f, .slice b3 n3 e3]) (by simp [results, Try.results44, go_sem, p0, p1, p2, p3]) rfl ?_
      exact ⟨_, _, _, rfl, FIN.out, FB.out⟩
  · have hM : memB ss cs bs = false := by simpa using hM
    have hok : spOk ss cs bs n = false := by unfold spOk; simp [hM]
    have e1 : spBS ss cs bs n = bs := by unfold spBS; rw [hok]; rfl
    rw [e1]
    clear hok e1
    have hA : Below w.heap.size w ((w.alloc (.cells #[.slice a0 n0 c0, .slice a1 n1 c1, .bool f, .slice a3 n3 c3] 44)).alloc (.cells #[.slice none 0 0, .slice none 0 0, .bool false, .slice none 0 0] 44)) := ((Below.refl _ _).alloc (Nat.le_refl _) _).alloc (by simp) _
    have xm : Box ((w.alloc (.cells #[.slice a0 n0 c0, .slice a1 n1 c1, .bool f, .slice a3 n3 c3] 44)).alloc (.cells #[.slice none 0 0, .slice none 0 0, .bool false, .slice none 0 0] 44)) w.heap.size 44 #[.slice a0 n0 c0, .slice a1 n1 c1, .bool f, .slice a3 n3 c3] := (Box.new w _ _).alloc _
    have xr : Box ((w.alloc (.cells #[.slice a0 n0 c0, .slice a1 n1 c1, .bool f, .slice a3 n3 c3] 44)).alloc (.cells #[.slice none 0 0, .slice none 0 0, .bool false, .slice none 0 0] 44)) (w.heap.size + 1) 44 #[.slice none 0 0, .slice none 0 0, .bool false, .slice none 0 0] := by
      have := Box.new (w.alloc (.cells #[.slice a0 n0 c0, .slice a1 n1 c1, .bool f, .slice a3 n3 c3] 44)) 44 #[.slice none 0 0, .slice none 0 0, .bool false, .slice none 0 0]
      rw [show (w.alloc (.cells #[.slice a0 n0 c0, .slice a1 n1 c1, .bool f, .slice a3 n3 c3] 44)).heap.size = w.heap.size + 1 by simp] at this
      exact this
    go_enter Try.func44, Try.ntmps44
    go_wp2_with fail
    generalize hW : (w.alloc (.cells #[.slice a0 n0 c0, .slice a1 n1 c1, .bool f, .slice a3 n3 c3] 44)).alloc (.cells #[.slice none 0 0, .slice none 0 0, .bool false, .slice none 0 0] 44) = W at hA xm xr ⊢
    clear hW
    have zr := xr.lt
    have B0 := hidden hA
    clear hA
    have XM0 := hidden xm
    clear xm
    have XR0 := hidden xr
    clear xr
    refine (copyMem_any _ E _ _ _ _ _ _ _ _ _ ss cs f bs (h0.below B0.out) (h1.below B0.out) (h3.below B0.out) hw).mono ?_
    intro e w1 hc
    obtain ⟨b0, b1, b3, e0, e1, e3, m1, m2, rfl, o3, o0, o1, r1, r2, r3, hb1⟩ := copy_shapes hl0 hl1 hl3 hc
    clear hc
    have B1 := hidden (Below.andThen B0.out hb1)
    have XM1 := hidden (XM0.out.below hb1 (by omega))
    have XR1 := hidden (XR0.out.below hb1 (by omega))
    have z1 := hb1.size
    clear B0 XM0 XR0 hb1
    have S1 := hidden o0
    clear o0
    have C1 := hidden o1
    clear o1
    have D1 := hidden o3
    clear o3
    have ba : Below w1.heap.size w1 (w1.alloc (.cells #[.slice b0 n0 e0, .slice b1 n1 e1, .bool f, .slice b3 n3 e3] 44)) := (Below.refl _ _).alloc (Nat.le_refl _) _
    have yo := Box.new w1 44 #[.slice b0 n0 e0, .slice b1 n1 e1, .bool f, .slice b3 n3 e3]
    have zo := yo.lt
    have B2 := hidden (Below.andThen B1.out ba)
    have XM2 := hidden (XM1.out.below ba (by omega))
    have XR2 := hidden (XR1.out.below ba (by omega))
    have S2 := hidden (S1.out.below ba)
    have C2 := hidden (C1.out.below ba)
    have D2 := hidden (D1.out.below ba)
    have z2 := ba.size
    clear B1 XM1 XR1 S1 C1 D1 ba
    have XO2 := hidden yo
    clear yo
    have sW : w.heap.size + 1 < W.heap.size := zr
    obtain ⟨q0, q1, q2, q3⟩ := XM2.out.cells4
    go_wp2_with fail
    generalize w1.alloc (.cells #[.slice b0 n0 e0, .slice b1 n1 e1, .bool f, .slice b3 n3 e3] 44) = w2 at B2 XM2 XR2 S2 C2 D2 XO2 z2 zo q0 q1 q2 q3 ⊢
    refine (implMemOk_any _ E _ _ _ _ _ _ _ _ _ ss cs f bs (h0.below B2.out) (h1.below B2.out) (h3.below B2.out) hw).mono ?_
    rintro e w3 ⟨rfl, hb3⟩
    clear q0 q1 q2 q3
    have B3 := hidden (Below.andThen B2.out hb3)
    have XM3 := hidden (XM2.out.below hb3 (by omega))
    have XR3 := hidden (XR2.out.below hb3 (by omega))
    have S3 := hidden (S2.out.below hb3)
    have C3 := hidden (C2.out.below hb3)
    have D3 := hidden (D2.out.below hb3)
    have XO3 := hidden (XO2.out.below hb3 (by omega))
    have z3 := hb3.size
    clear B2 XM2 XR2 S2 C2 D2 XO2 hb3
    obtain ⟨x0, x1, x2, x3⟩ := XO3.out.cells4
    obtain ⟨p0, p1, p2, p3⟩ := XR3.out.cells4
    have fz := XR3.out.frozen
    have hbt : But (w.heap.size + 1) (w.heap.size + 1 + 1) w3 ((((w3.setCell ⟨w.heap.size + 1, 0, none⟩ (.slice b0 n0 e0)).setCell ⟨w.heap.size + 1, 1, none⟩ (.slice b1 n1 e1)).setCell ⟨w.heap.size + 1, 2, none⟩ (.bool f)).setCell ⟨w.heap.size + 1, 3, none⟩ (.slice b3 n3 e3)) :=
      (((But.setCell (by omega) (by omega) _).trans (But.setCell (by omega) (by omega) _)).trans (But.setCell (by omega) (by omega) _)).trans (But.setCell (by omega) (by omega) _)
    have z99 := hbt.size
    have FIN : Hid ((tMem 57).Own ((((w3.setCell ⟨w.heap.size + 1, 0, none⟩ (.slice b0 n0 e0)).setCell ⟨w.heap.size + 1, 1, none⟩ (.slice b1 n1 e1)).setCell ⟨w.heap.size + 1, 2, none⟩ (.bool f)).setCell ⟨w.heap.size + 1, 3, none⟩ (.slice b3 n3 e3)) w.heap.size ((((w3.setCell ⟨w.heap.size + 1, 0, none⟩ (.slice b0 n0 e0)).setCell ⟨w.heap.size + 1, 1, none⟩ (.slice b1 n1 e1)).setCell ⟨w.heap.size + 1, 2, none⟩ (.bool f)).setCell ⟨w.heap.size + 1, 3, none⟩ (.slice b3 n3 e3)).heap.size [.slice b0 n0 e0, .slice b1 n1 e1, .bool f, .slice b3 n3 e3] (ss, cs, f, bs)) := mem_own3 (S3.out.but hbt (by omega)) (C3.out.but hbt (by omega)) (D3.out.but hbt (by omega)) (by omega) (by omega) (by omega) (by omega) (by omega) (by omega)
    have FB := hidden (Below.andBut B3.out hbt (by omega))
    clear hbt
    go_wp2
    refine bodyPost_ret (v := .agg #[.slice b0 n0 e0, .slice b1 n1 e1, .bool f, .slice b3 n3 e3]) (by simp [results, Try.results44, go_sem, p0, p1, p2, p3]) rfl ?_
    exact ⟨_, _, _, rfl, FIN.out, FB.out⟩

end Go.Proofs.Ytmkiljflkndmoaa
