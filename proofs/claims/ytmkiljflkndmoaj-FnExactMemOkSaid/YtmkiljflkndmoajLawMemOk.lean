/-
  The walk of the exact law of MemOk: at every disk it answers true, and nothing that was there has turned. No condition.
-/
import Derived.Test.YtmkiljflkndmoajWalkEq
import Derived.Test.YtmkiljflkndmoajWalkImplMemOk
namespace Go.Proofs.Ytmkiljflkndmoaj
open Go.RowKit

set_option maxHeartbeats 3200000 in
theorem fnExactMemOk_walk (a0 a1 a3 : Option Addr) (n0 c0 n1 c1 n3 c3 : Nat) (ss : List (List Int)) (cs : List (Int × List Int)) (f : Bool) (bs : List Int) (w : World) (h0 : tIntSS.Rd w [.slice a0 n0 c0] ss) (h1 : (tWrS 75).Rd w [.slice a1 n1 c1] cs) (h3 : tIntS.Rd w [.slice a3 n3 c3] bs) :
    Calls Try.prog 7 #[.agg #[.slice a0 n0 c0, .slice a1 n1 c1, .bool f, .slice a3 n3 c3]] w fun e w' => e = .returned (.bool true) ∧ Below w.heap.size w w' := by
  have hA : Below w.heap.size w (w.alloc (.cells #[.slice a0 n0 c0, .slice a1 n1 c1, .bool f, .slice a3 n3 c3] 47)) := (Below.refl _ _).alloc (Nat.le_refl _) _
  have hcell : ∀ j v, (#[Value.slice a0 n0 c0, .slice a1 n1 c1, .bool f, .slice a3 n3 c3])[j]? = some v → (w.alloc (.cells #[.slice a0 n0 c0, .slice a1 n1 c1, .bool f, .slice a3 n3 c3] 47)).cell? ⟨w.heap.size, j, none⟩ = some v := by
    intro j v hv
    rw [cell_of_row _ w.heap.size j _ _ (0, 0) (heap_alloc_new w _)]
    exact hv
  have k0 := hcell 0 _ rfl
  have k1 := hcell 1 _ rfl
  have k2 := hcell 2 _ rfl
  have k3 := hcell 3 _ rfl
  have hz : w.heap.size < (w.alloc (.cells #[.slice a0 n0 c0, .slice a1 n1 c1, .bool f, .slice a3 n3 c3] 47)).heap.size := by simp
  clear hcell
  go_enter Try.func7, Try.ntmps7
  go_wp2_with fail
  refine (szMem_any _ 75 _ _ _ _ _ _ _ _ _ ss cs f bs _ (h0.below hA) (h1.below hA) (h3.below hA) (by omega) (by omega)).mono ?_
  rintro e w1 ⟨rfl, hb1⟩
  have j0 := (hb1.cell (p := ⟨w.heap.size, 0, none⟩) hz).trans k0
  have j1 := (hb1.cell (p := ⟨w.heap.size, 1, none⟩) hz).trans k1
  have j2 := (hb1.cell (p := ⟨w.heap.size, 2, none⟩) hz).trans k2
  have j3 := (hb1.cell (p := ⟨w.heap.size, 3, none⟩) hz).trans k3
  have z1 : w.heap.size < w1.heap.size := Nat.lt_of_lt_of_le hz hb1.size
  have B1 := Below.andThen hA hb1
  clear hb1 hA k0 k1 k2 k3 hz
  by_cases hwt : (wtMem (ss, cs, f, bs) : Int) ≤ 1048576
  · have hq := leftOf_pos hwt
    have hwt' : wtMem (ss, cs, f, bs) ≤ 1048576 := by omega
    go_wp2_with fail
    refine (toMem_any _ 75 _ _ _ _ _ _ _ _ _ ss cs f bs (h0.below B1) (h1.below B1) (h3.below B1) hwt').mono ?_
    rintro e w2 ⟨b0, b1, b3, rfl, o2, hb2⟩
    have l0 := (hb2.cell (p := ⟨w.heap.size, 0, none⟩) z1).trans j0
    have l1 := (hb2.cell (p := ⟨w.heap.size, 1, none⟩) z1).trans j1
    have l2 := (hb2.cell (p := ⟨w.heap.size, 2, none⟩) z1).trans j2
    have l3 := (hb2.cell (p := ⟨w.heap.size, 3, none⟩) z1).trans j3
    have z2 : w.heap.size < w2.heap.size := Nat.lt_of_lt_of_le z1 hb2.size
    have B2 := Below.andThen B1 hb2
    clear hb2 j0 j1 j2 j3 B1 z1
    obtain ⟨p0, p1, p3⟩ := mem_parts o2
    go_wp2_with fail
    refine (specMemOk_any _ 65 _ _ _ _ _ _ _ _ _ ss cs f bs p0 p1 p3 (by omega)).mono ?_
    rintro e w3 ⟨rfl, hb3⟩
    have j0 := (hb3.cell (p := ⟨w.heap.size, 0, none⟩) z2).trans l0
    have j1 := (hb3.cell (p := ⟨w.heap.size, 1, none⟩) z2).trans l1
    have j2 := (hb3.cell (p := ⟨w.heap.size, 2, none⟩) z2).trans l2
    have j3 := (hb3.cell (p := ⟨w.heap.size, 3, none⟩) z2).trans l3
    have z3 : w.heap.size < w3.heap.size := Nat.lt_of_lt_of_le z2 hb3.size
    have B3 := Below.andThen B2 hb3
    clear hb3 l0 l1 l2 l3 B2 z2 o2 p0 p1 p3
    go_wp2_with fail
    refine (toMem_any _ 75 _ _ _ _ _ _ _ _ _ ss cs f bs (h0.below B3) (h1.below B3) (h3.below B3) hwt').mono ?_
    rintro e w4 ⟨d0, d1, d3, rfl, o4, hb4⟩
    have l0 := (hb4.cell (p := ⟨w.heap.size, 0, none⟩) z3).trans j0
    have l1 := (hb4.cell (p := ⟨w.heap.size, 1, none⟩) z3).trans j1
    have l2 := (hb4.cell (p := ⟨w.heap.size, 2, none⟩) z3).trans j2
    have l3 := (hb4.cell (p := ⟨w.heap.size, 3, none⟩) z3).trans j3
    have z4 : w.heap.size < w4.heap.size := Nat.lt_of_lt_of_le z3 hb4.size
    have B4 := Below.andThen B3 hb4
    clear hb4 j0 j1 j2 j3 B3 z3
    have hX : Below w4.heap.size w4 (w4.alloc (.cells #[.slice d0 n0 n0, .slice d1 n1 n1, .bool f, .slice d3 n3 n3] 40)) := (Below.refl _ _).alloc (Nat.le_refl _) _
    have xcell : ∀ j v, (#[Value.slice d0 n0 n0, .slice d1 n1 n1, .bool f, .slice d3 n3 n3])[j]? = some v → (w4.alloc (.cells #[.slice d0 n0 n0, .slice d1 n1 n1, .bool f, .slice d3 n3 n3] 40)).cell? ⟨w4.heap.size, j, none⟩ = some v := by
      intro j v hv
      rw [cell_of_row _ w4.heap.size j _ _ (0, 0) (heap_alloc_new w4 _)]
      exact hv
    have x0 := xcell 0 _ rfl
    have x1 := xcell 1 _ rfl
    have x2 := xcell 2 _ rfl
    have x3 := xcell 3 _ rfl
    have zx : w4.heap.size < (w4.alloc (.cells #[.slice d0 n0 n0, .slice d1 n1 n1, .bool f, .slice d3 n3 n3] 40)).heap.size := by simp
    have zw : w.heap.size < (w4.alloc (.cells #[.slice d0 n0 n0, .slice d1 n1 n1, .bool f, .slice d3 n3 n3] 40)).heap.size := by simp; omega
    have m0 := (hX.cell (p := ⟨w.heap.size, 0, none⟩) z4).trans l0
    have m1 := (hX.cell (p := ⟨w.heap.size, 1, none⟩) z4).trans l1
    have m2 := (hX.cell (p := ⟨w.heap.size, 2, none⟩) z4).trans l2
    have m3 := (hX.cell (p := ⟨w.heap.size, 3, none⟩) z4).trans l3
    have o5 := o4.below hX
    have B5 := Below.andThen B4 hX
    obtain ⟨p0, p1, p3⟩ := mem_parts o5
    clear xcell hX l0 l1 l2 l3 o4 B4
    go_wp2_with fail
    refine (implMemOk_any _ 65 _ _ _ _ _ _ _ _ _ ss cs f bs p0 p1 p3 (by omega)).mono ?_
    rintro e w6 ⟨rfl, hb6⟩
    have y0 := (hb6.cell (p := ⟨w4.heap.size, 0, none⟩) zx).trans x0
    have y1 := (hb6.cell (p := ⟨w4.heap.size, 1, none⟩) zx).trans x1
    have y2 := (hb6.cell (p := ⟨w4.heap.size, 2, none⟩) zx).trans x2
    have y3 := (hb6.cell (p := ⟨w4.heap.size, 3, none⟩) zx).trans x3
    have l0 := (hb6.cell (p := ⟨w.heap.size, 0, none⟩) zw).trans m0
    have l1 := (hb6.cell (p := ⟨w.heap.size, 1, none⟩) zw).trans m1
    have l2 := (hb6.cell (p := ⟨w.heap.size, 2, none⟩) zw).trans m2
    have l3 := (hb6.cell (p := ⟨w.heap.size, 3, none⟩) zw).trans m3
    have o6 := o5.below hb6
    have B6 := Below.andThen B5 hb6
    have zx6 : w4.heap.size < w6.heap.size := Nat.lt_of_lt_of_le zx hb6.size
    have hne : (memB ss cs bs != memB ss cs bs) = false := by simp
    clear hb6 x0 x1 x2 x3 m0 m1 m2 m3 o5 B5 zx zw p0 p1 p3
    have zw6 : w.heap.size < w6.heap.size := by omega
    go_wp2_with fail
    go_region_held3 (fun w' => w'.cell? ⟨w4.heap.size, 0, none⟩ = some (.slice d0 n0 n0) ∧ w'.cell? ⟨w4.heap.size, 1, none⟩ = some (.slice d1 n1 n1) ∧ w'.cell? ⟨w4.heap.size, 2, none⟩ = some (.bool f) ∧ w'.cell? ⟨w4.heap.size, 3, none⟩ = some (.slice d3 n3 n3) ∧ w'.cell? ⟨w.heap.size, 0, none⟩ = some (.slice a0 n0 c0) ∧ w'.cell? ⟨w.heap.size, 1, none⟩ = some (.slice a1 n1 c1) ∧ w'.cell? ⟨w.heap.size, 2, none⟩ = some (.bool f) ∧ w'.cell? ⟨w.heap.size, 3, none⟩ = some (.slice a3 n3 c3))
      (first | (exact ⟨(hb8'.cell (p := ⟨w4.heap.size, 0, none⟩) zx6).trans y0, (hb8'.cell (p := ⟨w4.heap.size, 1, none⟩) zx6).trans y1, (hb8'.cell (p := ⟨w4.heap.size, 2, none⟩) zx6).trans y2, (hb8'.cell (p := ⟨w4.heap.size, 3, none⟩) zx6).trans y3, (hb8'.cell (p := ⟨w.heap.size, 0, none⟩) zw6).trans l0, (hb8'.cell (p := ⟨w.heap.size, 1, none⟩) zw6).trans l1, (hb8'.cell (p := ⟨w.heap.size, 2, none⟩) zw6).trans l2, (hb8'.cell (p := ⟨w.heap.size, 3, none⟩) zw6).trans l3⟩) | (exact ⟨(hb7'.cell (p := ⟨w4.heap.size, 0, none⟩) zx6).trans y0, (hb7'.cell (p := ⟨w4.heap.size, 1, none⟩) zx6).trans y1, (hb7'.cell (p := ⟨w4.heap.size, 2, none⟩) zx6).trans y2, (hb7'.cell (p := ⟨w4.heap.size, 3, none⟩) zx6).trans y3, (hb7'.cell (p := ⟨w.heap.size, 0, none⟩) zw6).trans l0, (hb7'.cell (p := ⟨w.heap.size, 1, none⟩) zw6).trans l1, (hb7'.cell (p := ⟨w.heap.size, 2, none⟩) zw6).trans l2, (hb7'.cell (p := ⟨w.heap.size, 3, none⟩) zw6).trans l3⟩) | (exact ⟨y0, y1, y2, y3, l0, l1, l2, l3⟩) | go_keep)
      (first
        | (go_at_call 30; refine (toMem_any _ 75 _ _ _ _ _ _ _ _ _ ss cs f bs (by exact (h0.below B6).drew) (by exact (h1.below B6).drew) (by exact (h3.below B6).drew) hwt').mono ?_; rintro e w7 ⟨g0, g1, g3, rfl, o7, hb7⟩; have hb7' : Below w6.heap.size w6 w7 := (Below.refl w6.heap.size w6).drew.trans hb7)
        | (go_at_call 25; refine (eqMem_same _ 65 65 _ _ _ _ _ _ _ _ _ _ _ _ _ _ _ ss cs f bs (by exact (mem_parts (o6.below hb7')).1) (by exact (mem_parts (o6.below hb7')).2.1) (by exact (mem_parts (o6.below hb7')).2.2) (by exact (mem_parts o7).1) (by exact (mem_parts o7).2.1) (by exact (mem_parts o7).2.2) (by omega)).mono ?_; rintro e w8 ⟨rfl, hb8⟩; have hb8' : Below w6.heap.size w6 w8 := Below.andThen hb7' hb8))
    have B8 := Below.andThen B6 hb8'
    clear y0 y1 y2 y3 l0 l1 l2 l3 o6 o7 B6
    go_wp2
    go_ret
    exact ⟨rfl, B8⟩
  · have hq := leftOf_neg (left := 1048576) (wt := wtMem (ss, cs, f, bs)) (by omega)
    go_wp2
    go_ret
    exact ⟨rfl, B1⟩

end Go.Proofs.Ytmkiljflkndmoaj
