/-
  The walk of the exact law of Clash: for every Geo and every two commands it answers true, and nothing that was there has turned. No condition.
-/
import Derived.Test.YtplieehocceplaaWalkCmdS
import Derived.Test.YtplieehocceplaaWalkCmdI
import Derived.Test.YtplieehocceplaaWalkToGeo
namespace Go.Proofs.Ytplieehocceplaa
open Go.RowKit

set_option maxRecDepth 20000 in
set_option maxHeartbeats 4000000 in
theorem fnExactClash_walk (gn gs : Int) (o d b k : Int) (a : Option Addr) (n cap : Nat) (zs : List Int) (o2 d2 b2 k2 : Int) (a2 : Option Addr) (n2 cap2 : Nat) (zs2 : List Int) (w : World) (h : tIntS.Rd w [.slice a n cap] zs) (h2 : tIntS.Rd w [.slice a2 n2 cap2] zs2) :
    Calls Try.prog 7 #[.agg #[.int .i64 gn, .int .i64 gs], .agg #[.int .i64 o, .int .i64 d, .int .i64 b, .int .i64 k, .slice a n cap], .agg #[.int .i64 o2, .int .i64 d2, .int .i64 b2, .int .i64 k2, .slice a2 n2 cap2]] w fun e w' => e = .returned (.bool true) ∧ Below w.heap.size w w' := by
  obtain ⟨hr, hl, hnc0, hcm0⟩ := ints_rd h
  have hnm0 : n ≤ 9223372036854775807 := by omega
  clear h hnc0 hcm0
  obtain ⟨hr2, hl2, hnc1, hcm1⟩ := ints_rd h2
  have hnm1 : n2 ≤ 9223372036854775807 := by omega
  clear h2 hnc1 hcm1
  have hA : Below w.heap.size w (((w.alloc (.cells #[.int .i64 gn, .int .i64 gs] 43)).alloc (.cells #[.int .i64 o, .int .i64 d, .int .i64 b, .int .i64 k, .slice a n cap] 44)).alloc (.cells #[.int .i64 o2, .int .i64 d2, .int .i64 b2, .int .i64 k2, .slice a2 n2 cap2] 44)) := (((Below.refl w.heap.size w).alloc (by exact Nat.le_refl _) (.cells #[.int .i64 gn, .int .i64 gs] 43)).alloc (by simp) (.cells #[.int .i64 o, .int .i64 d, .int .i64 b, .int .i64 k, .slice a n cap] 44)).alloc (by simp; omega) (.cells #[.int .i64 o2, .int .i64 d2, .int .i64 b2, .int .i64 k2, .slice a2 n2 cap2] 44)
  have xBG : Box (((w.alloc (.cells #[.int .i64 gn, .int .i64 gs] 43)).alloc (.cells #[.int .i64 o, .int .i64 d, .int .i64 b, .int .i64 k, .slice a n cap] 44)).alloc (.cells #[.int .i64 o2, .int .i64 d2, .int .i64 b2, .int .i64 k2, .slice a2 n2 cap2] 44)) (w.heap.size) 43 #[.int .i64 gn, .int .i64 gs] := by
    have := Box.new w 43 #[.int .i64 gn, .int .i64 gs]
    exact ((this).alloc (.cells #[.int .i64 o, .int .i64 d, .int .i64 b, .int .i64 k, .slice a n cap] 44)).alloc (.cells #[.int .i64 o2, .int .i64 d2, .int .i64 b2, .int .i64 k2, .slice a2 n2 cap2] 44)
  have xBC : Box (((w.alloc (.cells #[.int .i64 gn, .int .i64 gs] 43)).alloc (.cells #[.int .i64 o, .int .i64 d, .int .i64 b, .int .i64 k, .slice a n cap] 44)).alloc (.cells #[.int .i64 o2, .int .i64 d2, .int .i64 b2, .int .i64 k2, .slice a2 n2 cap2] 44)) (w.heap.size + 1) 44 #[.int .i64 o, .int .i64 d, .int .i64 b, .int .i64 k, .slice a n cap] := by
    have := Box.new (w.alloc (.cells #[.int .i64 gn, .int .i64 gs] 43)) 44 #[.int .i64 o, .int .i64 d, .int .i64 b, .int .i64 k, .slice a n cap]
    rw [show (w.alloc (.cells #[.int .i64 gn, .int .i64 gs] 43)).heap.size = w.heap.size + 1 by simp] at this
    exact (this).alloc (.cells #[.int .i64 o2, .int .i64 d2, .int .i64 b2, .int .i64 k2, .slice a2 n2 cap2] 44)
  have xBC2 : Box (((w.alloc (.cells #[.int .i64 gn, .int .i64 gs] 43)).alloc (.cells #[.int .i64 o, .int .i64 d, .int .i64 b, .int .i64 k, .slice a n cap] 44)).alloc (.cells #[.int .i64 o2, .int .i64 d2, .int .i64 b2, .int .i64 k2, .slice a2 n2 cap2] 44)) (w.heap.size + 1 + 1) 44 #[.int .i64 o2, .int .i64 d2, .int .i64 b2, .int .i64 k2, .slice a2 n2 cap2] := by
    have := Box.new ((w.alloc (.cells #[.int .i64 gn, .int .i64 gs] 43)).alloc (.cells #[.int .i64 o, .int .i64 d, .int .i64 b, .int .i64 k, .slice a n cap] 44)) 44 #[.int .i64 o2, .int .i64 d2, .int .i64 b2, .int .i64 k2, .slice a2 n2 cap2]
    rw [show ((w.alloc (.cells #[.int .i64 gn, .int .i64 gs] 43)).alloc (.cells #[.int .i64 o, .int .i64 d, .int .i64 b, .int .i64 k, .slice a n cap] 44)).heap.size = w.heap.size + 1 + 1 by simp] at this
    exact this
  have zA : w.heap.size + 3 ≤ (((w.alloc (.cells #[.int .i64 gn, .int .i64 gs] 43)).alloc (.cells #[.int .i64 o, .int .i64 d, .int .i64 b, .int .i64 k, .slice a n cap] 44)).alloc (.cells #[.int .i64 o2, .int .i64 d2, .int .i64 b2, .int .i64 k2, .slice a2 n2 cap2] 44)).heap.size := by simp
  have B0 := hidden hA
  have BG0 := hidden xBG
  have BC0 := hidden xBC
  have BC20 := hidden xBC2
  clear hA xBG xBC xBC2
  go_enter Try.func7, Try.ntmps7
  obtain ⟨l0, l1, l2, l3, l4⟩ := BC0.out.cells5
  go_wp2_with fail
  generalize (((w.alloc (.cells #[.int .i64 gn, .int .i64 gs] 43)).alloc (.cells #[.int .i64 o, .int .i64 d, .int .i64 b, .int .i64 k, .slice a n cap] 44)).alloc (.cells #[.int .i64 o2, .int .i64 d2, .int .i64 b2, .int .i64 k2, .slice a2 n2 cap2] 44)) = w0 at zA B0 BG0 BC0 BC20 l0 l1 l2 l3 l4 ⊢
  have z0 := zA
  clear zA
  refine (szCmd_any _ o d b k _ _ _ _ hnm0 (by omega) (by omega)).mono ?_
  rintro e w1 ⟨rfl, hb1⟩
  clear l0 l1 l2 l3 l4
  have B1 := hidden (Below.andThen B0.out hb1)
  have BG1 := hidden (BG0.out.below hb1 (by omega))
  have BC1 := hidden (BC0.out.below hb1 (by omega))
  have BC21 := hidden (BC20.out.below hb1 (by omega))
  have z1 := hb1.size
  clear B0 BG0 BC0 BC20 hb1
  by_cases hwt : (n : Int) ≤ 1048576
  rotate_left
  · have hq := leftOf_neg (left := 1048576) (wt := n) (by omega)
    go_wp2
    go_ret
    exact ⟨rfl, B1.out⟩
  have hq0 := leftOf_pos hwt
  have hwt' : n ≤ 1048576 := by omega
  obtain ⟨l0, l1, l2, l3, l4⟩ := BC21.out.cells5
  go_wp2_with fail
  refine (szCmd_any _ o2 d2 b2 k2 _ _ _ _ hnm1 (by omega) (by omega)).mono ?_
  rintro e w2 ⟨rfl, hb2⟩
  clear l0 l1 l2 l3 l4
  have B2 := hidden (Below.andThen B1.out hb2)
  have BG2 := hidden (BG1.out.below hb2 (by omega))
  have BC2 := hidden (BC1.out.below hb2 (by omega))
  have BC22 := hidden (BC21.out.below hb2 (by omega))
  have z2 := hb2.size
  clear B1 BG1 BC1 BC21 hb2
  by_cases hwt2 : (n2 : Int) ≤ 1048576 - (n : Int)
  rotate_left
  · have hq := leftOf_neg (left := 1048576 - (n : Int)) (wt := n2) (by omega)
    go_wp2
    go_ret
    exact ⟨rfl, B2.out⟩
  have hq1 := leftOf_pos hwt2
  have hwt2' : n2 ≤ 1048576 := by omega
  obtain ⟨m0, m1⟩ := BG2.out.cells2
  have zm := BG2.out.lt
  obtain ⟨l0, l1, l2, l3, l4⟩ := BC2.out.cells5
  have zl := BC2.out.lt
  obtain ⟨u0, u1, u2, u3, u4⟩ := BC22.out.cells5
  have zu := BC22.out.lt
  go_wp2_with fail
  have q0 : Below w2.heap.size w2 w2.drew := (Below.refl _ _).drew
  go_region_held3 (fun w' => w'.cell? ⟨w.heap.size, 0, none⟩ = some (.int .i64 gn) ∧ w'.cell? ⟨w.heap.size, 1, none⟩ = some (.int .i64 gs) ∧ w'.cell? ⟨w.heap.size + 1, 0, none⟩ = some (.int .i64 o) ∧ w'.cell? ⟨w.heap.size + 1, 1, none⟩ = some (.int .i64 d) ∧ w'.cell? ⟨w.heap.size + 1, 2, none⟩ = some (.int .i64 b) ∧ w'.cell? ⟨w.heap.size + 1, 3, none⟩ = some (.int .i64 k) ∧ w'.cell? ⟨w.heap.size + 1, 4, none⟩ = some (.slice a n cap) ∧ w'.cell? ⟨w.heap.size + 1 + 1, 0, none⟩ = some (.int .i64 o2) ∧ w'.cell? ⟨w.heap.size + 1 + 1, 1, none⟩ = some (.int .i64 d2) ∧ w'.cell? ⟨w.heap.size + 1 + 1, 2, none⟩ = some (.int .i64 b2) ∧ w'.cell? ⟨w.heap.size + 1 + 1, 3, none⟩ = some (.int .i64 k2) ∧ w'.cell? ⟨w.heap.size + 1 + 1, 4, none⟩ = some (.slice a2 n2 cap2))
    (first | (exact ⟨(q4.cell (p := ⟨w.heap.size, 0, none⟩) zm).trans m0, (q4.cell (p := ⟨w.heap.size, 1, none⟩) zm).trans m1, (q4.cell (p := ⟨w.heap.size + 1, 0, none⟩) zl).trans l0, (q4.cell (p := ⟨w.heap.size + 1, 1, none⟩) zl).trans l1, (q4.cell (p := ⟨w.heap.size + 1, 2, none⟩) zl).trans l2, (q4.cell (p := ⟨w.heap.size + 1, 3, none⟩) zl).trans l3, (q4.cell (p := ⟨w.heap.size + 1, 4, none⟩) zl).trans l4, (q4.cell (p := ⟨w.heap.size + 1 + 1, 0, none⟩) zu).trans u0, (q4.cell (p := ⟨w.heap.size + 1 + 1, 1, none⟩) zu).trans u1, (q4.cell (p := ⟨w.heap.size + 1 + 1, 2, none⟩) zu).trans u2, (q4.cell (p := ⟨w.heap.size + 1 + 1, 3, none⟩) zu).trans u3, (q4.cell (p := ⟨w.heap.size + 1 + 1, 4, none⟩) zu).trans u4⟩) | (exact ⟨(q3.cell (p := ⟨w.heap.size, 0, none⟩) zm).trans m0, (q3.cell (p := ⟨w.heap.size, 1, none⟩) zm).trans m1, (q3.cell (p := ⟨w.heap.size + 1, 0, none⟩) zl).trans l0, (q3.cell (p := ⟨w.heap.size + 1, 1, none⟩) zl).trans l1, (q3.cell (p := ⟨w.heap.size + 1, 2, none⟩) zl).trans l2, (q3.cell (p := ⟨w.heap.size + 1, 3, none⟩) zl).trans l3, (q3.cell (p := ⟨w.heap.size + 1, 4, none⟩) zl).trans l4, (q3.cell (p := ⟨w.heap.size + 1 + 1, 0, none⟩) zu).trans u0, (q3.cell (p := ⟨w.heap.size + 1 + 1, 1, none⟩) zu).trans u1, (q3.cell (p := ⟨w.heap.size + 1 + 1, 2, none⟩) zu).trans u2, (q3.cell (p := ⟨w.heap.size + 1 + 1, 3, none⟩) zu).trans u3, (q3.cell (p := ⟨w.heap.size + 1 + 1, 4, none⟩) zu).trans u4⟩) | (exact ⟨(q2.cell (p := ⟨w.heap.size, 0, none⟩) zm).trans m0, (q2.cell (p := ⟨w.heap.size, 1, none⟩) zm).trans m1, (q2.cell (p := ⟨w.heap.size + 1, 0, none⟩) zl).trans l0, (q2.cell (p := ⟨w.heap.size + 1, 1, none⟩) zl).trans l1, (q2.cell (p := ⟨w.heap.size + 1, 2, none⟩) zl).trans l2, (q2.cell (p := ⟨w.heap.size + 1, 3, none⟩) zl).trans l3, (q2.cell (p := ⟨w.heap.size + 1, 4, none⟩) zl).trans l4, (q2.cell (p := ⟨w.heap.size + 1 + 1, 0, none⟩) zu).trans u0, (q2.cell (p := ⟨w.heap.size + 1 + 1, 1, none⟩) zu).trans u1, (q2.cell (p := ⟨w.heap.size + 1 + 1, 2, none⟩) zu).trans u2, (q2.cell (p := ⟨w.heap.size + 1 + 1, 3, none⟩) zu).trans u3, (q2.cell (p := ⟨w.heap.size + 1 + 1, 4, none⟩) zu).trans u4⟩) | (exact ⟨(q1.cell (p := ⟨w.heap.size, 0, none⟩) zm).trans m0, (q1.cell (p := ⟨w.heap.size, 1, none⟩) zm).trans m1, (q1.cell (p := ⟨w.heap.size + 1, 0, none⟩) zl).trans l0, (q1.cell (p := ⟨w.heap.size + 1, 1, none⟩) zl).trans l1, (q1.cell (p := ⟨w.heap.size + 1, 2, none⟩) zl).trans l2, (q1.cell (p := ⟨w.heap.size + 1, 3, none⟩) zl).trans l3, (q1.cell (p := ⟨w.heap.size + 1, 4, none⟩) zl).trans l4, (q1.cell (p := ⟨w.heap.size + 1 + 1, 0, none⟩) zu).trans u0, (q1.cell (p := ⟨w.heap.size + 1 + 1, 1, none⟩) zu).trans u1, (q1.cell (p := ⟨w.heap.size + 1 + 1, 2, none⟩) zu).trans u2, (q1.cell (p := ⟨w.heap.size + 1 + 1, 3, none⟩) zu).trans u3, (q1.cell (p := ⟨w.heap.size + 1 + 1, 4, none⟩) zu).trans u4⟩) | (exact ⟨m0, m1, l0, l1, l2, l3, l4, u0, u1, u2, u3, u4⟩) | go_keep)
    (first | (have gq := q3; clear gq; go_at_call 29; refine (specClash_any _ gn gs o d b k _ _ _ zs o2 d2 b2 k2 _ _ _ zs2 hl (by exact (ints_rd (ow2.below p3).rd).1) (by omega) hl2 (by exact (ints_rd ow3.rd).1) (by omega)).mono ?_; rintro e w6 ⟨rfl, p4⟩; have q4 : Below w2.heap.size w2 w6 := Below.andThen q3 p4) | (have gq := q2; clear gq; go_at_call 26; refine (toCmd_any _ o2 d2 b2 k2 _ _ _ zs2 hl2 (by exact (hr2.below B2.out).below q2) hwt2').mono ?_; rintro e w5 ⟨t3, rfl, ow3, p3⟩; have q3 : Below w2.heap.size w2 w5 := Below.andThen q2 p3) | (have gq := q1; clear gq; go_at_call 26; refine (toCmd_any _ o d b k _ _ _ zs hl (by exact (hr.below B2.out).below q1) hwt').mono ?_; rintro e w4 ⟨t2, rfl, ow2, p2⟩; have q2 : Below w2.heap.size w2 w4 := Below.andThen q1 p2) | (have gq := q0; clear gq; go_at_call 25; refine (toGeo_any _ _ _).mono ?_; rintro e w3 ⟨rfl, p1⟩; have q1 : Below w2.heap.size w2 w3 := Below.andThen q0 p1))
  clear q0 q1 q2 q3 p1 p2 p3 p4 zm m0 m1 zl l0 l1 l2 l3 l4 zu u0 u1 u2 u3 u4
  have B6 := hidden (Below.andThen B2.out q4)
  have BG6 := hidden (BG2.out.below q4 (by omega))
  have BC6 := hidden (BC2.out.below q4 (by omega))
  have BC26 := hidden (BC22.out.below q4 (by omega))
  have z6 := q4.size
  clear B2 BG2 BC2 BC22 q4
  clear ow2 ow3
  obtain ⟨l0, l1, l2, l3, l4⟩ := BC6.out.cells5
  go_wp2_with fail
  refine (toCmd_any _ o d b k _ _ _ zs hl (hr.below B6.out) hwt').mono ?_
  rintro e w7 ⟨g7, rfl, o7, hb7⟩
  clear l0 l1 l2 l3 l4
  have B7 := hidden (Below.andThen B6.out hb7)
  have BG7 := hidden (BG6.out.below hb7 (by omega))
  have BC7 := hidden (BC6.out.below hb7 (by omega))
  have BC27 := hidden (BC26.out.below hb7 (by omega))
  have z7 := hb7.size
  clear B6 BG6 BC6 BC26 hb7
  have D7 := hidden o7
  clear o7
  have ba : Below w7.heap.size w7 (w7.alloc (.cells #[.int .i64 o, .int .i64 d, .int .i64 b, .int .i64 k, .slice (some ⟨g7, 0, none⟩) n n] 26)) := (Below.refl _ _).alloc (Nat.le_refl _) _
  have xb := Box.new w7 26 #[.int .i64 o, .int .i64 d, .int .i64 b, .int .i64 k, .slice (some ⟨g7, 0, none⟩) n n]
  have zx := xb.lt
  have B8 := hidden (Below.andThen B7.out ba)
  have BG8 := hidden (BG7.out.below ba (by omega))
  have BC8 := hidden (BC7.out.below ba (by omega))
  have BC28 := hidden (BC27.out.below ba (by omega))
  have D8 := hidden (D7.out.below ba)
  have z8 := ba.size
  clear B7 BG7 BC7 BC27 D7 ba
  have BX8 := hidden xb
  clear xb
  have zz : w7.heap.size < (w7.alloc (.cells #[.int .i64 o, .int .i64 d, .int .i64 b, .int .i64 k, .slice (some ⟨g7, 0, none⟩) n n] 26)).heap.size := zx
  obtain ⟨l0, l1, l2, l3, l4⟩ := BC28.out.cells5
  go_wp2_with fail
  generalize w7.alloc (.cells #[.int .i64 o, .int .i64 d, .int .i64 b, .int .i64 k, .slice (some ⟨g7, 0, none⟩) n n] 26) = w8 at B8 BG8 BC8 BC28 D8 BX8 z8 zx zz l0 l1 l2 l3 l4 ⊢
  clear zx
  have zb8 := zz
  clear zz
  refine (toCmd_any _ o2 d2 b2 k2 _ _ _ zs2 hl2 (hr2.below B8.out) hwt2').mono ?_
  rintro e w9 ⟨g9, rfl, o9, hb9⟩
  clear l0 l1 l2 l3 l4
  have B9 := hidden (Below.andThen B8.out hb9)
  have BG9 := hidden (BG8.out.below hb9 (by omega))
  have BC9 := hidden (BC8.out.below hb9 (by omega))
  have BC29 := hidden (BC28.out.below hb9 (by omega))
  have D9 := hidden (D8.out.below hb9)
  have BX9 := hidden (BX8.out.below hb9 (by omega))
  have z9 := hb9.size
  clear B8 BG8 BC8 BC28 D8 BX8 hb9
  have D29 := hidden o9
  clear o9
  have ba : Below w9.heap.size w9 (w9.alloc (.cells #[.int .i64 o2, .int .i64 d2, .int .i64 b2, .int .i64 k2, .slice (some ⟨g9, 0, none⟩) n2 n2] 26)) := (Below.refl _ _).alloc (Nat.le_refl _) _
  have xb := Box.new w9 26 #[.int .i64 o2, .int .i64 d2, .int .i64 b2, .int .i64 k2, .slice (some ⟨g9, 0, none⟩) n2 n2]
  have zx := xb.lt
  have B10 := hidden (Below.andThen B9.out ba)
  have BG10 := hidden (BG9.out.below ba (by omega))
  have BC10 := hidden (BC9.out.below ba (by omega))
  have BC210 := hidden (BC29.out.below ba (by omega))
  have D10 := hidden (D9.out.below ba)
  have BX10 := hidden (BX9.out.below ba (by omega))
  have D210 := hidden (D29.out.below ba)
  have z10 := ba.size
  clear B9 BG9 BC9 BC29 D9 BX9 D29 ba
  have BX210 := hidden xb
  clear xb
  have zz : w9.heap.size < (w9.alloc (.cells #[.int .i64 o2, .int .i64 d2, .int .i64 b2, .int .i64 k2, .slice (some ⟨g9, 0, none⟩) n2 n2] 26)).heap.size := zx
  go_wp2_with fail
  generalize w9.alloc (.cells #[.int .i64 o2, .int .i64 d2, .int .i64 b2, .int .i64 k2, .slice (some ⟨g9, 0, none⟩) n2 n2] 26) = w10 at B10 BG10 BC10 BC210 D10 BX10 D210 BX210 z10 zx zz ⊢
  clear zx
  have zb10 := zz
  clear zz
  obtain ⟨m0, m1⟩ := BG10.out.cells2
  have zm := BG10.out.lt
  obtain ⟨y0, y1, y2, y3, y4⟩ := BX10.out.cells5
  have zy := BX10.out.lt
  obtain ⟨v0, v1, v2, v3, v4⟩ := BX210.out.cells5
  have zv := BX210.out.lt
  go_wp2_with fail
  have q0 : Below w10.heap.size w10 w10.drew := (Below.refl _ _).drew
  go_region_held3 (fun w' => w'.cell? ⟨w.heap.size, 0, none⟩ = some (.int .i64 gn) ∧ w'.cell? ⟨w.heap.size, 1, none⟩ = some (.int .i64 gs) ∧ w'.cell? ⟨w7.heap.size, 0, none⟩ = some (.int .i64 o) ∧ w'.cell? ⟨w7.heap.size, 1, none⟩ = some (.int .i64 d) ∧ w'.cell? ⟨w7.heap.size, 2, none⟩ = some (.int .i64 b) ∧ w'.cell? ⟨w7.heap.size, 3, none⟩ = some (.int .i64 k) ∧ w'.cell? ⟨w7.heap.size, 4, none⟩ = some (.slice (some ⟨g7, 0, none⟩) n n) ∧ w'.cell? ⟨w9.heap.size, 0, none⟩ = some (.int .i64 o2) ∧ w'.cell? ⟨w9.heap.size, 1, none⟩ = some (.int .i64 d2) ∧ w'.cell? ⟨w9.heap.size, 2, none⟩ = some (.int .i64 b2) ∧ w'.cell? ⟨w9.heap.size, 3, none⟩ = some (.int .i64 k2) ∧ w'.cell? ⟨w9.heap.size, 4, none⟩ = some (.slice (some ⟨g9, 0, none⟩) n2 n2))
    (first | (exact ⟨(q2.cell (p := ⟨w.heap.size, 0, none⟩) zm).trans m0, (q2.cell (p := ⟨w.heap.size, 1, none⟩) zm).trans m1, (q2.cell (p := ⟨w7.heap.size, 0, none⟩) zy).trans y0, (q2.cell (p := ⟨w7.heap.size, 1, none⟩) zy).trans y1, (q2.cell (p := ⟨w7.heap.size, 2, none⟩) zy).trans y2, (q2.cell (p := ⟨w7.heap.size, 3, none⟩) zy).trans y3, (q2.cell (p := ⟨w7.heap.size, 4, none⟩) zy).trans y4, (q2.cell (p := ⟨w9.heap.size, 0, none⟩) zv).trans v0, (q2.cell (p := ⟨w9.heap.size, 1, none⟩) zv).trans v1, (q2.cell (p := ⟨w9.heap.size, 2, none⟩) zv).trans v2, (q2.cell (p := ⟨w9.heap.size, 3, none⟩) zv).trans v3, (q2.cell (p := ⟨w9.heap.size, 4, none⟩) zv).trans v4⟩) | (exact ⟨(q1.cell (p := ⟨w.heap.size, 0, none⟩) zm).trans m0, (q1.cell (p := ⟨w.heap.size, 1, none⟩) zm).trans m1, (q1.cell (p := ⟨w7.heap.size, 0, none⟩) zy).trans y0, (q1.cell (p := ⟨w7.heap.size, 1, none⟩) zy).trans y1, (q1.cell (p := ⟨w7.heap.size, 2, none⟩) zy).trans y2, (q1.cell (p := ⟨w7.heap.size, 3, none⟩) zy).trans y3, (q1.cell (p := ⟨w7.heap.size, 4, none⟩) zy).trans y4, (q1.cell (p := ⟨w9.heap.size, 0, none⟩) zv).trans v0, (q1.cell (p := ⟨w9.heap.size, 1, none⟩) zv).trans v1, (q1.cell (p := ⟨w9.heap.size, 2, none⟩) zv).trans v2, (q1.cell (p := ⟨w9.heap.size, 3, none⟩) zv).trans v3, (q1.cell (p := ⟨w9.heap.size, 4, none⟩) zv).trans v4⟩) | (exact ⟨m0, m1, y0, y1, y2, y3, y4, v0, v1, v2, v3, v4⟩) | go_keep)
    (first | (have gq := q1; clear gq; go_at_call 21; refine (implClash_any _ gn gs o d b k _ _ _ zs o2 d2 b2 k2 _ _ _ zs2 hl (by exact (ints_rd (D10.out.below q1).rd).1) (by omega) hl2 (by exact (ints_rd (D210.out.below q1).rd).1) (by omega)).mono ?_; rintro e w12 ⟨rfl, p2⟩; have q2 : Below w10.heap.size w10 w12 := Below.andThen q1 p2) | (have gq := q0; clear gq; go_at_call 25; refine (toGeo_any _ _ _).mono ?_; rintro e w11 ⟨rfl, p1⟩; have q1 : Below w10.heap.size w10 w11 := Below.andThen q0 p1))
  clear q0 q1 p1 p2 zm m0 m1 zy y0 y1 y2 y3 y4 zv v0 v1 v2 v3 v4
  have B12 := hidden (Below.andThen B10.out q2)
  have BG12 := hidden (BG10.out.below q2 (by omega))
  have BC12 := hidden (BC10.out.below q2 (by omega))
  have BC212 := hidden (BC210.out.below q2 (by omega))
  have D12 := hidden (D10.out.below q2)
  have BX12 := hidden (BX10.out.below q2 (by omega))
  have D212 := hidden (D210.out.below q2)
  have BX212 := hidden (BX210.out.below q2 (by omega))
  have z12 := q2.size
  clear B10 BG10 BC10 BC210 D10 BX10 D210 BX210 q2
  have hv172 : (metC (spanC gn gs o d b k zs) (spanC gn gs o2 d2 b2 k2 zs2) == metC (spanC gn gs o d b k zs) (spanC gn gs o2 d2 b2 k2 zs2)) = true := by simp
  have hv173 : (metC (spanC gn gs o d b k zs) (spanC gn gs o2 d2 b2 k2 zs2) != metC (spanC gn gs o d b k zs) (spanC gn gs o2 d2 b2 k2 zs2)) = false := by simp
  obtain ⟨y0, y1, y2, y3, y4⟩ := BX12.out.cells5
  have zy := BX12.out.lt
  obtain ⟨l0, l1, l2, l3, l4⟩ := BC12.out.cells5
  have zl := BC12.out.lt
  go_wp2_with fail
  have q0 : Below w12.heap.size w12 w12.drew := (Below.refl _ _).drew
  go_region_held3 (fun w' => w'.cell? ⟨w7.heap.size, 0, none⟩ = some (.int .i64 o) ∧ w'.cell? ⟨w7.heap.size, 1, none⟩ = some (.int .i64 d) ∧ w'.cell? ⟨w7.heap.size, 2, none⟩ = some (.int .i64 b) ∧ w'.cell? ⟨w7.heap.size, 3, none⟩ = some (.int .i64 k) ∧ w'.cell? ⟨w7.heap.size, 4, none⟩ = some (.slice (some ⟨g7, 0, none⟩) n n) ∧ w'.cell? ⟨w.heap.size + 1, 0, none⟩ = some (.int .i64 o) ∧ w'.cell? ⟨w.heap.size + 1, 1, none⟩ = some (.int .i64 d) ∧ w'.cell? ⟨w.heap.size + 1, 2, none⟩ = some (.int .i64 b) ∧ w'.cell? ⟨w.heap.size + 1, 3, none⟩ = some (.int .i64 k) ∧ w'.cell? ⟨w.heap.size + 1, 4, none⟩ = some (.slice a n cap))
    (first | (exact ⟨(q2.cell (p := ⟨w7.heap.size, 0, none⟩) zy).trans y0, (q2.cell (p := ⟨w7.heap.size, 1, none⟩) zy).trans y1, (q2.cell (p := ⟨w7.heap.size, 2, none⟩) zy).trans y2, (q2.cell (p := ⟨w7.heap.size, 3, none⟩) zy).trans y3, (q2.cell (p := ⟨w7.heap.size, 4, none⟩) zy).trans y4, (q2.cell (p := ⟨w.heap.size + 1, 0, none⟩) zl).trans l0, (q2.cell (p := ⟨w.heap.size + 1, 1, none⟩) zl).trans l1, (q2.cell (p := ⟨w.heap.size + 1, 2, none⟩) zl).trans l2, (q2.cell (p := ⟨w.heap.size + 1, 3, none⟩) zl).trans l3, (q2.cell (p := ⟨w.heap.size + 1, 4, none⟩) zl).trans l4⟩) | (exact ⟨(q1.cell (p := ⟨w7.heap.size, 0, none⟩) zy).trans y0, (q1.cell (p := ⟨w7.heap.size, 1, none⟩) zy).trans y1, (q1.cell (p := ⟨w7.heap.size, 2, none⟩) zy).trans y2, (q1.cell (p := ⟨w7.heap.size, 3, none⟩) zy).trans y3, (q1.cell (p := ⟨w7.heap.size, 4, none⟩) zy).trans y4, (q1.cell (p := ⟨w.heap.size + 1, 0, none⟩) zl).trans l0, (q1.cell (p := ⟨w.heap.size + 1, 1, none⟩) zl).trans l1, (q1.cell (p := ⟨w.heap.size + 1, 2, none⟩) zl).trans l2, (q1.cell (p := ⟨w.heap.size + 1, 3, none⟩) zl).trans l3, (q1.cell (p := ⟨w.heap.size + 1, 4, none⟩) zl).trans l4⟩) | (exact ⟨y0, y1, y2, y3, y4, l0, l1, l2, l3, l4⟩) | go_keep)
    (first | (have gq := q1; clear gq; go_at_call 27; refine (eqCmd_same _ o d b k _ _ _ _ _ zs hl (by exact (ints_rd (D12.out.below q1).rd).1) (by exact (ints_rd ow1.rd).1) (by omega)).mono ?_; rintro e w14 ⟨rfl, p2⟩; have q2 : Below w12.heap.size w12 w14 := Below.andThen q1 p2) | (have gq := q0; clear gq; go_at_call 26; refine (toCmd_any _ o d b k _ _ _ zs hl (by exact (hr.below B12.out).below q0) hwt').mono ?_; rintro e w13 ⟨t1, rfl, ow1, p1⟩; have q1 : Below w12.heap.size w12 w13 := Below.andThen q0 p1))
  clear q0 q1 p1 p2 zy y0 y1 y2 y3 y4 zl l0 l1 l2 l3 l4
  have B14 := hidden (Below.andThen B12.out q2)
  have BG14 := hidden (BG12.out.below q2 (by omega))
  have BC14 := hidden (BC12.out.below q2 (by omega))
  have BC214 := hidden (BC212.out.below q2 (by omega))
  have D14 := hidden (D12.out.below q2)
  have BX14 := hidden (BX12.out.below q2 (by omega))
  have D214 := hidden (D212.out.below q2)
  have BX214 := hidden (BX212.out.below q2 (by omega))
  have z14 := q2.size
  clear B12 BG12 BC12 BC212 D12 BX12 D212 BX212 q2
  clear ow1
  obtain ⟨y0, y1, y2, y3, y4⟩ := BX214.out.cells5
  have zy := BX214.out.lt
  obtain ⟨l0, l1, l2, l3, l4⟩ := BC214.out.cells5
  have zl := BC214.out.lt
  go_wp2_with fail
  have q0 : Below w14.heap.size w14 w14.drew := (Below.refl _ _).drew
  go_region_held3 (fun w' => w'.cell? ⟨w9.heap.size, 0, none⟩ = some (.int .i64 o2) ∧ w'.cell? ⟨w9.heap.size, 1, none⟩ = some (.int .i64 d2) ∧ w'.cell? ⟨w9.heap.size, 2, none⟩ = some (.int .i64 b2) ∧ w'.cell? ⟨w9.heap.size, 3, none⟩ = some (.int .i64 k2) ∧ w'.cell? ⟨w9.heap.size, 4, none⟩ = some (.slice (some ⟨g9, 0, none⟩) n2 n2) ∧ w'.cell? ⟨w.heap.size + 1 + 1, 0, none⟩ = some (.int .i64 o2) ∧ w'.cell? ⟨w.heap.size + 1 + 1, 1, none⟩ = some (.int .i64 d2) ∧ w'.cell? ⟨w.heap.size + 1 + 1, 2, none⟩ = some (.int .i64 b2) ∧ w'.cell? ⟨w.heap.size + 1 + 1, 3, none⟩ = some (.int .i64 k2) ∧ w'.cell? ⟨w.heap.size + 1 + 1, 4, none⟩ = some (.slice a2 n2 cap2))
    (first | (exact ⟨(q2.cell (p := ⟨w9.heap.size, 0, none⟩) zy).trans y0, (q2.cell (p := ⟨w9.heap.size, 1, none⟩) zy).trans y1, (q2.cell (p := ⟨w9.heap.size, 2, none⟩) zy).trans y2, (q2.cell (p := ⟨w9.heap.size, 3, none⟩) zy).trans y3, (q2.cell (p := ⟨w9.heap.size, 4, none⟩) zy).trans y4, (q2.cell (p := ⟨w.heap.size + 1 + 1, 0, none⟩) zl).trans l0, (q2.cell (p := ⟨w.heap.size + 1 + 1, 1, none⟩) zl).trans l1, (q2.cell (p := ⟨w.heap.size + 1 + 1, 2, none⟩) zl).trans l2, (q2.cell (p := ⟨w.heap.size + 1 + 1, 3, none⟩) zl).trans l3, (q2.cell (p := ⟨w.heap.size + 1 + 1, 4, none⟩) zl).trans l4⟩) | (exact ⟨(q1.cell (p := ⟨w9.heap.size, 0, none⟩) zy).trans y0, (q1.cell (p := ⟨w9.heap.size, 1, none⟩) zy).trans y1, (q1.cell (p := ⟨w9.heap.size, 2, none⟩) zy).trans y2, (q1.cell (p := ⟨w9.heap.size, 3, none⟩) zy).trans y3, (q1.cell (p := ⟨w9.heap.size, 4, none⟩) zy).trans y4, (q1.cell (p := ⟨w.heap.size + 1 + 1, 0, none⟩) zl).trans l0, (q1.cell (p := ⟨w.heap.size + 1 + 1, 1, none⟩) zl).trans l1, (q1.cell (p := ⟨w.heap.size + 1 + 1, 2, none⟩) zl).trans l2, (q1.cell (p := ⟨w.heap.size + 1 + 1, 3, none⟩) zl).trans l3, (q1.cell (p := ⟨w.heap.size + 1 + 1, 4, none⟩) zl).trans l4⟩) | (exact ⟨y0, y1, y2, y3, y4, l0, l1, l2, l3, l4⟩) | go_keep)
    (first | (have gq := q1; clear gq; go_at_call 27; refine (eqCmd_same _ o2 d2 b2 k2 _ _ _ _ _ zs2 hl2 (by exact (ints_rd (D214.out.below q1).rd).1) (by exact (ints_rd ow1.rd).1) (by omega)).mono ?_; rintro e w16 ⟨rfl, p2⟩; have q2 : Below w14.heap.size w14 w16 := Below.andThen q1 p2) | (have gq := q0; clear gq; go_at_call 26; refine (toCmd_any _ o2 d2 b2 k2 _ _ _ zs2 hl2 (by exact (hr2.below B14.out).below q0) hwt2').mono ?_; rintro e w15 ⟨t1, rfl, ow1, p1⟩; have q1 : Below w14.heap.size w14 w15 := Below.andThen q0 p1))
  clear q0 q1 p1 p2 zy y0 y1 y2 y3 y4 zl l0 l1 l2 l3 l4
  have B16 := hidden (Below.andThen B14.out q2)
  have BG16 := hidden (BG14.out.below q2 (by omega))
  have BC16 := hidden (BC14.out.below q2 (by omega))
  have BC216 := hidden (BC214.out.below q2 (by omega))
  have D16 := hidden (D14.out.below q2)
  have BX16 := hidden (BX14.out.below q2 (by omega))
  have D216 := hidden (D214.out.below q2)
  have BX216 := hidden (BX214.out.below q2 (by omega))
  have z16 := q2.size
  clear B14 BG14 BC14 BC214 D14 BX14 D214 BX214 q2
  clear ow1
  go_wp2
  go_ret
  exact ⟨rfl, B16.out⟩

end Go.Proofs.Ytplieehocceplaa
