/-
  The walk of the exact law of BestSuper: at every disk and every number it answers true, and nothing that was there has turned. No condition.
-/
import Derived.Test.YtljkjbfkekihjaaWalkMemRd
import Derived.Test.YtljkjbfkekihjaaWalkBest
namespace Go.Proofs.Ytljkjbfkekihjaa
open Go.RowKit


set_option maxHeartbeats 4000000 in
theorem fnExactBestSuper_walk (a0 a1 a3 : Option Addr) (n0 c0 n1 c1 n3 c3 : Nat) (ss : List (List Int)) (cs : List (Int × List Int)) (f : Bool) (bs : List Int) (n : Int) (w : World) (h0 : tIntSS.Rd w [.slice a0 n0 c0] ss) (h1 : (tWrS 100).Rd w [.slice a1 n1 c1] cs) (h3 : tIntS.Rd w [.slice a3 n3 c3] bs) :
    Calls Try.prog 8 #[.agg #[.slice a0 n0 c0, .slice a1 n1 c1, .bool f, .slice a3 n3 c3], .int .i64 n] w fun e w' => e = .returned (.bool true) ∧ Below w.heap.size w w' := by
  have hA : Below w.heap.size w (w.alloc (.cells #[.slice a0 n0 c0, .slice a1 n1 c1, .bool f, .slice a3 n3 c3] 54)) := (Below.refl _ _).alloc (Nat.le_refl _) _
  have xm := Box.new w 54 #[.slice a0 n0 c0, .slice a1 n1 c1, .bool f, .slice a3 n3 c3]
  have zm := xm.lt
  obtain ⟨l0, l1, l2, l3⟩ := xm.cells4
  have XM := hidden xm
  clear xm
  go_enter Try.func8, Try.ntmps8
  go_wp2_with fail
  refine (szMem_any _ 100 _ _ _ _ _ _ _ _ _ ss cs f bs _ (h0.below hA) (h1.below hA) (h3.below hA) (by omega) (by omega)).mono ?_
  rintro e w1 ⟨rfl, hb1⟩
  have BM1 := hidden (XM.out.below hb1 zm)
  have B1 := hidden (Below.andThen hA hb1)
  have z1 : w.heap.size < w1.heap.size := Nat.lt_of_lt_of_le zm hb1.size
  clear hb1 hA l0 l1 l2 l3 zm XM
  by_cases hwt : (wtMem (ss, cs, f, bs) : Int) ≤ 1048576
  · have hq := leftOf_pos hwt
    have hwt' : wtMem (ss, cs, f, bs) ≤ 1048576 := by omega
    have hcp := cntM_pos ss cs bs
    have hq2 : ((bestSt ss cs f bs n 2).2 != (bestSt ss cs f bs n 2).2) = false := by simp
    have hq3 : ((bestSt ss cs f bs n 2).2 == (bestSt ss cs f bs n 2).2) = true := by simp
    obtain ⟨l0, l1, l2, l3⟩ := BM1.out.cells4
    go_wp2_with fail
    refine (toMem_any _ 100 _ _ _ _ _ _ _ _ _ ss cs f bs (h0.below B1.out) (h1.below B1.out) (h3.below B1.out) hwt').mono ?_
    rintro e w2 ⟨b0, b1, b3, rfl, o2, hb2⟩
    clear l0 l1 l2 l3
    have B2 := hidden (Below.andThen B1.out hb2)
    have BM2 := hidden (BM1.out.below hb2 (by omega))
    have z2 := hb2.size
    clear B1 BM1 hb2
    have Y2 := hidden o2
    clear o2
    obtain ⟨p0, p1, p3⟩ := mem_parts Y2.out
    go_wp2_with fail
    refine (specBestSuper_any _ 81 _ _ _ _ _ _ _ _ _ ss cs f bs n p0 p1 p3 (by omega)).mono ?_
    rintro e w3 ⟨rfl, hb3⟩
    clear p0 p1 p3
    clear Y2
    have B3 := hidden (Below.andThen B2.out hb3)
    have BM3 := hidden (BM2.out.below hb3 (by omega))
    have z3 := hb3.size
    clear B2 BM2 hb3
    have ba : Below w3.heap.size w3 (w3.alloc (.cells #[.int .i64 ((bestSt ss cs f bs n 2).1).id, .int .i64 ((bestSt ss cs f bs n 2).1).gen, .int .i64 ((bestSt ss cs f bs n 2).1).role, .int .i64 ((bestSt ss cs f bs n 2).1).n, .int .i64 ((bestSt ss cs f bs n 2).1).s, .int .i64 ((bestSt ss cs f bs n 2).1).tail, .int .i64 ((bestSt ss cs f bs n 2).1).lost, .int .i64 ((bestSt ss cs f bs n 2).1).built] 25)) := (Below.refl _ _).alloc (Nat.le_refl _) _
    have xb := Box.new w3 25 #[.int .i64 ((bestSt ss cs f bs n 2).1).id, .int .i64 ((bestSt ss cs f bs n 2).1).gen, .int .i64 ((bestSt ss cs f bs n 2).1).role, .int .i64 ((bestSt ss cs f bs n 2).1).n, .int .i64 ((bestSt ss cs f bs n 2).1).s, .int .i64 ((bestSt ss cs f bs n 2).1).tail, .int .i64 ((bestSt ss cs f bs n 2).1).lost, .int .i64 ((bestSt ss cs f bs n 2).1).built]
    have zx4 := xb.lt
    have B4 := hidden (Below.andThen B3.out ba)
    have BM4 := hidden (BM3.out.below ba (by omega))
    have z4 := ba.size
    clear B3 BM3 ba
    have WB4 := hidden xb
    clear xb
    obtain ⟨l0, l1, l2, l3⟩ := BM4.out.cells4
    go_wp2_with fail
    generalize w3.alloc (.cells #[.int .i64 ((bestSt ss cs f bs n 2).1).id, .int .i64 ((bestSt ss cs f bs n 2).1).gen, .int .i64 ((bestSt ss cs f bs n 2).1).role, .int .i64 ((bestSt ss cs f bs n 2).1).n, .int .i64 ((bestSt ss cs f bs n 2).1).s, .int .i64 ((bestSt ss cs f bs n 2).1).tail, .int .i64 ((bestSt ss cs f bs n 2).1).lost, .int .i64 ((bestSt ss cs f bs n 2).1).built] 25) = w4 at B4 BM4 WB4 z4 zx4 l0 l1 l2 l3 ⊢
    refine (toMem_any _ 100 _ _ _ _ _ _ _ _ _ ss cs f bs (h0.below B4.out) (h1.below B4.out) (h3.below B4.out) hwt').mono ?_
    rintro e w5 ⟨d0, d1, d3, rfl, o5, hb5⟩
    clear l0 l1 l2 l3
    have B5 := hidden (Below.andThen B4.out hb5)
    have BM5 := hidden (BM4.out.below hb5 (by omega))
    have WB5 := hidden (WB4.out.below hb5 (by omega))
    have z5 := hb5.size
    clear B4 BM4 WB4 hb5
    have X5 := hidden o5
    clear o5
    have ba : Below w5.heap.size w5 (w5.alloc (.cells #[.slice d0 n0 n0, .slice d1 n1 n1, .bool f, .slice d3 n3 n3] 35)) := (Below.refl _ _).alloc (Nat.le_refl _) _
    have xb := Box.new w5 35 #[.slice d0 n0 n0, .slice d1 n1 n1, .bool f, .slice d3 n3 n3]
    have zx := xb.lt
    have B6 := hidden (Below.andThen B5.out ba)
    have BM6 := hidden (BM5.out.below ba (by omega))
    have WB6 := hidden (WB5.out.below ba (by omega))
    have X6 := hidden (X5.out.below ba)
    have z6 := ba.size
    clear B5 BM5 WB5 X5 ba
    have XB6 := hidden xb
    clear xb
    obtain ⟨p0, p1, p3⟩ := mem_parts X6.out
    obtain ⟨x0, x1, x2, x3⟩ := XB6.out.cells4
    go_wp2_with fail
    generalize w5.alloc (.cells #[.slice d0 n0 n0, .slice d1 n1 n1, .bool f, .slice d3 n3 n3] 35) = w6 at B6 BM6 WB6 X6 XB6 p0 p1 p3 x0 x1 x2 x3 z6 zx ⊢
    refine (implBestSuper_any _ 81 _ _ _ _ _ _ _ _ _ ss cs f bs n p0 p1 p3 (by omega)).mono ?_
    rintro e w7 ⟨rfl, hb7⟩
    clear p0 p1 p3
    clear x0 x1 x2 x3
    have B7 := hidden (Below.andThen B6.out hb7)
    have BM7 := hidden (BM6.out.below hb7 (by omega))
    have WB7 := hidden (WB6.out.below hb7 (by omega))
    have X7 := hidden (X6.out.below hb7)
    have XB7 := hidden (XB6.out.below hb7 (by omega))
    have z7 := hb7.size
    clear B6 BM6 WB6 X6 XB6 hb7
    have ba : Below w7.heap.size w7 (w7.alloc (.cells #[.int .i64 ((bestSt ss cs f bs n 2).1).id, .int .i64 ((bestSt ss cs f bs n 2).1).gen, .int .i64 ((bestSt ss cs f bs n 2).1).role, .int .i64 ((bestSt ss cs f bs n 2).1).n, .int .i64 ((bestSt ss cs f bs n 2).1).s, .int .i64 ((bestSt ss cs f bs n 2).1).tail, .int .i64 ((bestSt ss cs f bs n 2).1).lost, .int .i64 ((bestSt ss cs f bs n 2).1).built] 25)) := (Below.refl _ _).alloc (Nat.le_refl _) _
    have xb := Box.new w7 25 #[.int .i64 ((bestSt ss cs f bs n 2).1).id, .int .i64 ((bestSt ss cs f bs n 2).1).gen, .int .i64 ((bestSt ss cs f bs n 2).1).role, .int .i64 ((bestSt ss cs f bs n 2).1).n, .int .i64 ((bestSt ss cs f bs n 2).1).s, .int .i64 ((bestSt ss cs f bs n 2).1).tail, .int .i64 ((bestSt ss cs f bs n 2).1).lost, .int .i64 ((bestSt ss cs f bs n 2).1).built]
    have zx8 := xb.lt
    have B8 := hidden (Below.andThen B7.out ba)
    have BM8 := hidden (BM7.out.below ba (by omega))
    have WB8 := hidden (WB7.out.below ba (by omega))
    have X8 := hidden (X7.out.below ba)
    have XB8 := hidden (XB7.out.below ba (by omega))
    have z8 := ba.size
    clear B7 BM7 WB7 X7 XB7 ba
    have GB8 := hidden xb
    clear xb
    obtain ⟨u0, u1, u2, u3, u4, u5, u6, u7⟩ := GB8.out.cells8
    obtain ⟨v0, v1, v2, v3, v4, v5, v6, v7⟩ := WB8.out.cells8
    go_wp2_with fail
    generalize w7.alloc (.cells #[.int .i64 ((bestSt ss cs f bs n 2).1).id, .int .i64 ((bestSt ss cs f bs n 2).1).gen, .int .i64 ((bestSt ss cs f bs n 2).1).role, .int .i64 ((bestSt ss cs f bs n 2).1).n, .int .i64 ((bestSt ss cs f bs n 2).1).s, .int .i64 ((bestSt ss cs f bs n 2).1).tail, .int .i64 ((bestSt ss cs f bs n 2).1).lost, .int .i64 ((bestSt ss cs f bs n 2).1).built] 25) = w8 at B8 BM8 WB8 X8 XB8 GB8 z8 zx8 u0 u1 u2 u3 u4 u5 u6 u7 v0 v1 v2 v3 v4 v5 v6 v7 ⊢
    refine (eqSuper_refl _ (bestSt ss cs f bs n 2).1).mono ?_
    rintro e w9 ⟨rfl, hb9⟩
    clear u0 v0 u1 v1 u2 v2 u3 v3 u4 v4 u5 v5 u6 v6 u7 v7
    clear GB8
    clear WB8
    have B9 := hidden (Below.andThen B8.out hb9)
    have BM9 := hidden (BM8.out.below hb9 (by omega))
    have X9 := hidden (X8.out.below hb9)
    have XB9 := hidden (XB8.out.below hb9 (by omega))
    have z9 := hb9.size
    clear B8 BM8 X8 XB8 hb9
    obtain ⟨y0, y1, y2, y3⟩ := XB9.out.cells4
    obtain ⟨l0, l1, l2, l3⟩ := BM9.out.cells4
    have zl := BM9.out.lt
    have zy := XB9.out.lt
    go_wp2_with fail
    go_region_held3 (fun w' => w'.cell? ⟨w5.heap.size, 0, none⟩ = some (.slice d0 n0 n0) ∧ w'.cell? ⟨w5.heap.size, 1, none⟩ = some (.slice d1 n1 n1) ∧ w'.cell? ⟨w5.heap.size, 2, none⟩ = some (.bool f) ∧ w'.cell? ⟨w5.heap.size, 3, none⟩ = some (.slice d3 n3 n3) ∧ w'.cell? ⟨w.heap.size, 0, none⟩ = some (.slice a0 n0 c0) ∧ w'.cell? ⟨w.heap.size, 1, none⟩ = some (.slice a1 n1 c1) ∧ w'.cell? ⟨w.heap.size, 2, none⟩ = some (.bool f) ∧ w'.cell? ⟨w.heap.size, 3, none⟩ = some (.slice a3 n3 c3))
      (first | (exact ⟨(hb11'.cell (p := ⟨w5.heap.size, 0, none⟩) zy).trans y0, (hb11'.cell (p := ⟨w5.heap.size, 1, none⟩) zy).trans y1, (hb11'.cell (p := ⟨w5.heap.size, 2, none⟩) zy).trans y2, (hb11'.cell (p := ⟨w5.heap.size, 3, none⟩) zy).trans y3, (hb11'.cell (p := ⟨w.heap.size, 0, none⟩) zl).trans l0, (hb11'.cell (p := ⟨w.heap.size, 1, none⟩) zl).trans l1, (hb11'.cell (p := ⟨w.heap.size, 2, none⟩) zl).trans l2, (hb11'.cell (p := ⟨w.heap.size, 3, none⟩) zl).trans l3⟩) | (exact ⟨(hb10'.cell (p := ⟨w5.heap.size, 0, none⟩) zy).trans y0, (hb10'.cell (p := ⟨w5.heap.size, 1, none⟩) zy).trans y1, (hb10'.cell (p := ⟨w5.heap.size, 2, none⟩) zy).trans y2, (hb10'.cell (p := ⟨w5.heap.size, 3, none⟩) zy).trans y3, (hb10'.cell (p := ⟨w.heap.size, 0, none⟩) zl).trans l0, (hb10'.cell (p := ⟨w.heap.size, 1, none⟩) zl).trans l1, (hb10'.cell (p := ⟨w.heap.size, 2, none⟩) zl).trans l2, (hb10'.cell (p := ⟨w.heap.size, 3, none⟩) zl).trans l3⟩) | (exact ⟨y0, y1, y2, y3, l0, l1, l2, l3⟩) | go_keep)
      (first
        | (go_at_call 33; refine (toMem_any _ 100 _ _ _ _ _ _ _ _ _ ss cs f bs (by exact (h0.below B9.out).drew) (by exact (h1.below B9.out).drew) (by exact (h3.below B9.out).drew) hwt').mono ?_; rintro e w10 ⟨g0, g1, g3, rfl, o10, hb10⟩; have hb10' : Below w9.heap.size w9 w10 := (Below.refl w9.heap.size w9).drew.trans hb10)
        | (go_at_call 34; refine (eqMem_rd _ 81 81 _ _ _ _ _ _ _ ss cs bs (by exact (X9.out.below hb10').rd) (by exact o10.rd) (by omega)).mono ?_; rintro e w11 ⟨rfl, hb11⟩; have hb11' : Below w9.heap.size w9 w11 := Below.andThen hb10' hb11))
    clear y0 y1 y2 y3 l0 l1 l2 l3
    clear zl zy o10 hb10 hb11 hb10'
    have B11 := hidden (Below.andThen B9.out hb11')
    have BM11 := hidden (BM9.out.below hb11' (by omega))
    have X11 := hidden (X9.out.below hb11')
    have XB11 := hidden (XB9.out.below hb11' (by omega))
    have z11 := hb11'.size
    clear B9 BM9 X9 XB9 hb11'
    go_wp2
    go_ret
    exact ⟨rfl, B11.out⟩
  · have hq := leftOf_neg (left := 1048576) (wt := wtMem (ss, cs, f, bs)) (by omega)
    go_wp2
    go_ret
    exact ⟨rfl, B1.out⟩

end Go.Proofs.Ytljkjbfkekihjaa
