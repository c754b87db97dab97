/-
  The walk of the exact law of StepsOf: for every Geo and every command it answers true, and nothing that was there has turned. No condition.
-/
import Derived.Test.YtbkkjfgjlapadaaWalkStepsS
import Derived.Test.YtbkkjfgjlapadaaWalkStepsI
import Derived.Test.YtbkkjfgjlapadaaWalkToGeo
namespace Go.Proofs.Ytbkkjfgjlapadaa
open Go.RowKit

set_option maxRecDepth 20000 in
set_option maxHeartbeats 4000000 in
theorem fnExactStepsOf_walk (gn gs : Int) (o d b k : Int) (a : Option Addr) (n cap : Nat) (zs : List Int) (w : World) (h : tIntS.Rd w [.slice a n cap] zs) :
    Calls Try.prog 4 #[.agg #[.int .i64 gn, .int .i64 gs], .agg #[.int .i64 o, .int .i64 d, .int .i64 b, .int .i64 k, .slice a n cap]] w fun e w' => e = .returned (.bool true) ∧ Below w.heap.size w w' := by
  obtain ⟨hr, hl, hnc0, hcm0⟩ := ints_rd h
  have hnm0 : n ≤ 9223372036854775807 := by omega
  clear h hnc0 hcm0
  have hA : Below w.heap.size w ((w.alloc (.cells #[.int .i64 gn, .int .i64 gs] 37)).alloc (.cells #[.int .i64 o, .int .i64 d, .int .i64 b, .int .i64 k, .slice a n cap] 38)) := ((Below.refl w.heap.size w).alloc (by exact Nat.le_refl _) (.cells #[.int .i64 gn, .int .i64 gs] 37)).alloc (by simp) (.cells #[.int .i64 o, .int .i64 d, .int .i64 b, .int .i64 k, .slice a n cap] 38)
  have xBG : Box ((w.alloc (.cells #[.int .i64 gn, .int .i64 gs] 37)).alloc (.cells #[.int .i64 o, .int .i64 d, .int .i64 b, .int .i64 k, .slice a n cap] 38)) (w.heap.size) 37 #[.int .i64 gn, .int .i64 gs] := by
    have := Box.new w 37 #[.int .i64 gn, .int .i64 gs]
    exact (this).alloc (.cells #[.int .i64 o, .int .i64 d, .int .i64 b, .int .i64 k, .slice a n cap] 38)
  have xBC : Box ((w.alloc (.cells #[.int .i64 gn, .int .i64 gs] 37)).alloc (.cells #[.int .i64 o, .int .i64 d, .int .i64 b, .int .i64 k, .slice a n cap] 38)) (w.heap.size + 1) 38 #[.int .i64 o, .int .i64 d, .int .i64 b, .int .i64 k, .slice a n cap] := by
    have := Box.new (w.alloc (.cells #[.int .i64 gn, .int .i64 gs] 37)) 38 #[.int .i64 o, .int .i64 d, .int .i64 b, .int .i64 k, .slice a n cap]
    rw [show (w.alloc (.cells #[.int .i64 gn, .int .i64 gs] 37)).heap.size = w.heap.size + 1 by simp] at this
    exact this
  have zA : w.heap.size + 2 ≤ ((w.alloc (.cells #[.int .i64 gn, .int .i64 gs] 37)).alloc (.cells #[.int .i64 o, .int .i64 d, .int .i64 b, .int .i64 k, .slice a n cap] 38)).heap.size := by simp
  have B0 := hidden hA
  have BG0 := hidden xBG
  have BC0 := hidden xBC
  clear hA xBG xBC
  go_enter Try.func4, Try.ntmps4
  obtain ⟨l0, l1, l2, l3, l4⟩ := BC0.out.cells5
  go_wp2_with fail
  generalize ((w.alloc (.cells #[.int .i64 gn, .int .i64 gs] 37)).alloc (.cells #[.int .i64 o, .int .i64 d, .int .i64 b, .int .i64 k, .slice a n cap] 38)) = w0 at zA B0 BG0 BC0 l0 l1 l2 l3 l4 ⊢
  have z0 := zA
  clear zA
  refine (szCmd_any _ o d b k _ _ _ _ hnm0 (by omega) (by omega)).mono ?_
  rintro e w1 ⟨rfl, hb1⟩
  clear l0 l1 l2 l3 l4
  have B1 := hidden (Below.andThen B0.out hb1)
  have BG1 := hidden (BG0.out.below hb1 (by omega))
  have BC1 := hidden (BC0.out.below hb1 (by omega))
  have z1 := hb1.size
  clear B0 BG0 BC0 hb1
  by_cases hwt : (n : Int) ≤ 1048576
  rotate_left
  · have hq := leftOf_neg (left := 1048576) (wt := n) (by omega)
    go_wp2
    go_ret
    exact ⟨rfl, B1.out⟩
  have hq0 := leftOf_pos hwt
  have hwt' : n ≤ 1048576 := by omega
  obtain ⟨m0, m1⟩ := BG1.out.cells2
  have zm := BG1.out.lt
  obtain ⟨l0, l1, l2, l3, l4⟩ := BC1.out.cells5
  have zl := BC1.out.lt
  go_wp2_with fail
  have q0 : Below w1.heap.size w1 w1.drew := (Below.refl _ _).drew
  go_region_held3 (fun w' => w'.cell? ⟨w.heap.size, 0, none⟩ = some (.int .i64 gn) ∧ w'.cell? ⟨w.heap.size, 1, none⟩ = some (.int .i64 gs) ∧ w'.cell? ⟨w.heap.size + 1, 0, none⟩ = some (.int .i64 o) ∧ w'.cell? ⟨w.heap.size + 1, 1, none⟩ = some (.int .i64 d) ∧ w'.cell? ⟨w.heap.size + 1, 2, none⟩ = some (.int .i64 b) ∧ w'.cell? ⟨w.heap.size + 1, 3, none⟩ = some (.int .i64 k) ∧ w'.cell? ⟨w.heap.size + 1, 4, none⟩ = some (.slice a n cap))
    (first | (exact ⟨(q3.cell (p := ⟨w.heap.size, 0, none⟩) zm).trans m0, (q3.cell (p := ⟨w.heap.size, 1, none⟩) zm).trans m1, (q3.cell (p := ⟨w.heap.size + 1, 0, none⟩) zl).trans l0, (q3.cell (p := ⟨w.heap.size + 1, 1, none⟩) zl).trans l1, (q3.cell (p := ⟨w.heap.size + 1, 2, none⟩) zl).trans l2, (q3.cell (p := ⟨w.heap.size + 1, 3, none⟩) zl).trans l3, (q3.cell (p := ⟨w.heap.size + 1, 4, none⟩) zl).trans l4⟩) | (exact ⟨(q2.cell (p := ⟨w.heap.size, 0, none⟩) zm).trans m0, (q2.cell (p := ⟨w.heap.size, 1, none⟩) zm).trans m1, (q2.cell (p := ⟨w.heap.size + 1, 0, none⟩) zl).trans l0, (q2.cell (p := ⟨w.heap.size + 1, 1, none⟩) zl).trans l1, (q2.cell (p := ⟨w.heap.size + 1, 2, none⟩) zl).trans l2, (q2.cell (p := ⟨w.heap.size + 1, 3, none⟩) zl).trans l3, (q2.cell (p := ⟨w.heap.size + 1, 4, none⟩) zl).trans l4⟩) | (exact ⟨(q1.cell (p := ⟨w.heap.size, 0, none⟩) zm).trans m0, (q1.cell (p := ⟨w.heap.size, 1, none⟩) zm).trans m1, (q1.cell (p := ⟨w.heap.size + 1, 0, none⟩) zl).trans l0, (q1.cell (p := ⟨w.heap.size + 1, 1, none⟩) zl).trans l1, (q1.cell (p := ⟨w.heap.size + 1, 2, none⟩) zl).trans l2, (q1.cell (p := ⟨w.heap.size + 1, 3, none⟩) zl).trans l3, (q1.cell (p := ⟨w.heap.size + 1, 4, none⟩) zl).trans l4⟩) | (exact ⟨m0, m1, l0, l1, l2, l3, l4⟩) | go_keep)
    (first | (have gq := q2; clear gq; go_at_call 16; refine (specStepsOf_any _ gn gs o d b k _ _ _ zs hl (by exact (ints_rd ow2.rd).1) (by omega)).mono ?_; rintro e w4 ⟨rfl, p3⟩; have q3 : Below w1.heap.size w1 w4 := Below.andThen q2 p3) | (have gq := q1; clear gq; go_at_call 19; refine (toCmd_any _ o d b k _ _ _ zs hl (by exact (hr.below B1.out).below q1) hwt').mono ?_; rintro e w3 ⟨t2, rfl, ow2, p2⟩; have q2 : Below w1.heap.size w1 w3 := Below.andThen q1 p2) | (have gq := q0; clear gq; go_at_call 18; refine (toGeo_any _ _ _).mono ?_; rintro e w2 ⟨rfl, p1⟩; have q1 : Below w1.heap.size w1 w2 := Below.andThen q0 p1))
  clear q0 q1 q2 p1 p2 p3 zm m0 m1 zl l0 l1 l2 l3 l4
  have B4 := hidden (Below.andThen B1.out q3)
  have BG4 := hidden (BG1.out.below q3 (by omega))
  have BC4 := hidden (BC1.out.below q3 (by omega))
  have z4 := q3.size
  clear B1 BG1 BC1 q3
  clear ow2
  obtain ⟨l0, l1, l2, l3, l4⟩ := BC4.out.cells5
  go_wp2_with fail
  refine (toCmd_any _ o d b k _ _ _ zs hl (hr.below B4.out) hwt').mono ?_
  rintro e w5 ⟨g5, rfl, o5, hb5⟩
  clear l0 l1 l2 l3 l4
  have B5 := hidden (Below.andThen B4.out hb5)
  have BG5 := hidden (BG4.out.below hb5 (by omega))
  have BC5 := hidden (BC4.out.below hb5 (by omega))
  have z5 := hb5.size
  clear B4 BG4 BC4 hb5
  have D5 := hidden o5
  clear o5
  have ba : Below w5.heap.size w5 (w5.alloc (.cells #[.int .i64 o, .int .i64 d, .int .i64 b, .int .i64 k, .slice (some ⟨g5, 0, none⟩) n n] 28)) := (Below.refl _ _).alloc (Nat.le_refl _) _
  have xb := Box.new w5 28 #[.int .i64 o, .int .i64 d, .int .i64 b, .int .i64 k, .slice (some ⟨g5, 0, none⟩) n n]
  have zx := xb.lt
  have B6 := hidden (Below.andThen B5.out ba)
  have BG6 := hidden (BG5.out.below ba (by omega))
  have BC6 := hidden (BC5.out.below ba (by omega))
  have D6 := hidden (D5.out.below ba)
  have z6 := ba.size
  clear B5 BG5 BC5 D5 ba
  have BX6 := hidden xb
  clear xb
  have zz : w5.heap.size < (w5.alloc (.cells #[.int .i64 o, .int .i64 d, .int .i64 b, .int .i64 k, .slice (some ⟨g5, 0, none⟩) n n] 28)).heap.size := zx
  go_wp2_with fail
  generalize w5.alloc (.cells #[.int .i64 o, .int .i64 d, .int .i64 b, .int .i64 k, .slice (some ⟨g5, 0, none⟩) n n] 28) = w6 at B6 BG6 BC6 D6 BX6 z6 zx zz ⊢
  clear zx
  have zb6 := zz
  clear zz
  obtain ⟨m0, m1⟩ := BG6.out.cells2
  have zm := BG6.out.lt
  obtain ⟨y0, y1, y2, y3, y4⟩ := BX6.out.cells5
  have zy := BX6.out.lt
  go_wp2_with fail
  have q0 : Below w6.heap.size w6 w6.drew := (Below.refl _ _).drew
  go_region_held3 (fun w' => w'.cell? ⟨w.heap.size, 0, none⟩ = some (.int .i64 gn) ∧ w'.cell? ⟨w.heap.size, 1, none⟩ = some (.int .i64 gs) ∧ w'.cell? ⟨w5.heap.size, 0, none⟩ = some (.int .i64 o) ∧ w'.cell? ⟨w5.heap.size, 1, none⟩ = some (.int .i64 d) ∧ w'.cell? ⟨w5.heap.size, 2, none⟩ = some (.int .i64 b) ∧ w'.cell? ⟨w5.heap.size, 3, none⟩ = some (.int .i64 k) ∧ w'.cell? ⟨w5.heap.size, 4, none⟩ = some (.slice (some ⟨g5, 0, none⟩) n n))
    (first | (exact ⟨(q2.cell (p := ⟨w.heap.size, 0, none⟩) zm).trans m0, (q2.cell (p := ⟨w.heap.size, 1, none⟩) zm).trans m1, (q2.cell (p := ⟨w5.heap.size, 0, none⟩) zy).trans y0, (q2.cell (p := ⟨w5.heap.size, 1, none⟩) zy).trans y1, (q2.cell (p := ⟨w5.heap.size, 2, none⟩) zy).trans y2, (q2.cell (p := ⟨w5.heap.size, 3, none⟩) zy).trans y3, (q2.cell (p := ⟨w5.heap.size, 4, none⟩) zy).trans y4⟩) | (exact ⟨(q1.cell (p := ⟨w.heap.size, 0, none⟩) zm).trans m0, (q1.cell (p := ⟨w.heap.size, 1, none⟩) zm).trans m1, (q1.cell (p := ⟨w5.heap.size, 0, none⟩) zy).trans y0, (q1.cell (p := ⟨w5.heap.size, 1, none⟩) zy).trans y1, (q1.cell (p := ⟨w5.heap.size, 2, none⟩) zy).trans y2, (q1.cell (p := ⟨w5.heap.size, 3, none⟩) zy).trans y3, (q1.cell (p := ⟨w5.heap.size, 4, none⟩) zy).trans y4⟩) | (exact ⟨m0, m1, y0, y1, y2, y3, y4⟩) | go_keep)
    (first | (have gq := q1; clear gq; go_at_call 15; refine (implStepsOf_any _ gn gs o d b k _ _ _ zs hl (by exact (ints_rd (D6.out.below q1).rd).1) (by omega)).mono ?_; rintro e w8 ⟨rfl, p2⟩; have q2 : Below w6.heap.size w6 w8 := Below.andThen q1 p2) | (have gq := q0; clear gq; go_at_call 18; refine (toGeo_any _ _ _).mono ?_; rintro e w7 ⟨rfl, p1⟩; have q1 : Below w6.heap.size w6 w7 := Below.andThen q0 p1))
  clear q0 q1 p1 p2 zm m0 m1 zy y0 y1 y2 y3 y4
  have B8 := hidden (Below.andThen B6.out q2)
  have BG8 := hidden (BG6.out.below q2 (by omega))
  have BC8 := hidden (BC6.out.below q2 (by omega))
  have D8 := hidden (D6.out.below q2)
  have BX8 := hidden (BX6.out.below q2 (by omega))
  have z8 := q2.size
  clear B6 BG6 BC6 D6 BX6 q2
  have hv100 : (stepsC gn gs o d b k zs == stepsC gn gs o d b k zs) = true := by simp
  have hv101 : (stepsC gn gs o d b k zs != stepsC gn gs o d b k zs) = false := by simp
  obtain ⟨y0, y1, y2, y3, y4⟩ := BX8.out.cells5
  have zy := BX8.out.lt
  obtain ⟨l0, l1, l2, l3, l4⟩ := BC8.out.cells5
  have zl := BC8.out.lt
  go_wp2_with fail
  have q0 : Below w8.heap.size w8 w8.drew := (Below.refl _ _).drew
  go_region_held3 (fun w' => w'.cell? ⟨w5.heap.size, 0, none⟩ = some (.int .i64 o) ∧ w'.cell? ⟨w5.heap.size, 1, none⟩ = some (.int .i64 d) ∧ w'.cell? ⟨w5.heap.size, 2, none⟩ = some (.int .i64 b) ∧ w'.cell? ⟨w5.heap.size, 3, none⟩ = some (.int .i64 k) ∧ w'.cell? ⟨w5.heap.size, 4, none⟩ = some (.slice (some ⟨g5, 0, none⟩) n n) ∧ w'.cell? ⟨w.heap.size + 1, 0, none⟩ = some (.int .i64 o) ∧ w'.cell? ⟨w.heap.size + 1, 1, none⟩ = some (.int .i64 d) ∧ w'.cell? ⟨w.heap.size + 1, 2, none⟩ = some (.int .i64 b) ∧ w'.cell? ⟨w.heap.size + 1, 3, none⟩ = some (.int .i64 k) ∧ w'.cell? ⟨w.heap.size + 1, 4, none⟩ = some (.slice a n cap))
    (first | (exact ⟨(q2.cell (p := ⟨w5.heap.size, 0, none⟩) zy).trans y0, (q2.cell (p := ⟨w5.heap.size, 1, none⟩) zy).trans y1, (q2.cell (p := ⟨w5.heap.size, 2, none⟩) zy).trans y2, (q2.cell (p := ⟨w5.heap.size, 3, none⟩) zy).trans y3, (q2.cell (p := ⟨w5.heap.size, 4, none⟩) zy).trans y4, (q2.cell (p := ⟨w.heap.size + 1, 0, none⟩) zl).trans l0, (q2.cell (p := ⟨w.heap.size + 1, 1, none⟩) zl).trans l1, (q2.cell (p := ⟨w.heap.size + 1, 2, none⟩) zl).trans l2, (q2.cell (p := ⟨w.heap.size + 1, 3, none⟩) zl).trans l3, (q2.cell (p := ⟨w.heap.size + 1, 4, none⟩) zl).trans l4⟩) | (exact ⟨(q1.cell (p := ⟨w5.heap.size, 0, none⟩) zy).trans y0, (q1.cell (p := ⟨w5.heap.size, 1, none⟩) zy).trans y1, (q1.cell (p := ⟨w5.heap.size, 2, none⟩) zy).trans y2, (q1.cell (p := ⟨w5.heap.size, 3, none⟩) zy).trans y3, (q1.cell (p := ⟨w5.heap.size, 4, none⟩) zy).trans y4, (q1.cell (p := ⟨w.heap.size + 1, 0, none⟩) zl).trans l0, (q1.cell (p := ⟨w.heap.size + 1, 1, none⟩) zl).trans l1, (q1.cell (p := ⟨w.heap.size + 1, 2, none⟩) zl).trans l2, (q1.cell (p := ⟨w.heap.size + 1, 3, none⟩) zl).trans l3, (q1.cell (p := ⟨w.heap.size + 1, 4, none⟩) zl).trans l4⟩) | (exact ⟨y0, y1, y2, y3, y4, l0, l1, l2, l3, l4⟩) | go_keep)
    (first | (have gq := q1; clear gq; go_at_call 20; refine (eqCmd_same _ o d b k _ _ _ _ _ zs hl (by exact (ints_rd (D8.out.below q1).rd).1) (by exact (ints_rd ow1.rd).1) (by omega)).mono ?_; rintro e w10 ⟨rfl, p2⟩; have q2 : Below w8.heap.size w8 w10 := Below.andThen q1 p2) | (have gq := q0; clear gq; go_at_call 19; refine (toCmd_any _ o d b k _ _ _ zs hl (by exact (hr.below B8.out).below q0) hwt').mono ?_; rintro e w9 ⟨t1, rfl, ow1, p1⟩; have q1 : Below w8.heap.size w8 w9 := Below.andThen q0 p1))
  clear q0 q1 p1 p2 zy y0 y1 y2 y3 y4 zl l0 l1 l2 l3 l4
  have B10 := hidden (Below.andThen B8.out q2)
  have BG10 := hidden (BG8.out.below q2 (by omega))
  have BC10 := hidden (BC8.out.below q2 (by omega))
  have D10 := hidden (D8.out.below q2)
  have BX10 := hidden (BX8.out.below q2 (by omega))
  have z10 := q2.size
  clear B8 BG8 BC8 D8 BX8 q2
  clear ow1
  go_wp2
  go_ret
  exact ⟨rfl, B10.out⟩

end Go.Proofs.Ytbkkjfgjlapadaa
