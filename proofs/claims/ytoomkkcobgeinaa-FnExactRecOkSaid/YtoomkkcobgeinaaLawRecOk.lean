/-
  The walk of the exact law of RecOk: at every record it answers true, and nothing that was there has turned. No condition.
-/
import Derived.Test.YtoomkkcobgeinaaWalkRec
namespace Go.Proofs.Ytoomkkcobgeinaa
open Go.RowKit

set_option maxHeartbeats 4000000 in
theorem fnExactRecOk_walk (x y : Int) (a : Option Addr) (n cap : Nat) (zs : List Int) (w : World) (h : tIntS.Rd w [.slice a n cap] zs) :
    Calls Try.prog 4 #[.agg #[.int .i64 x, .int .i64 y, .slice a n cap]] w fun e w' => e = .returned (.bool true) ∧ Below w.heap.size w w' := by
  obtain ⟨hr, hl, hnc, hcm⟩ := ints_rd h
  have hnm : n ≤ 9223372036854775807 := by omega
  clear h hnc hcm
  have hA := new_below w (.cells #[.int .i64 x, .int .i64 y, .slice a n cap] 39)
  have xm := Box.new w 39 #[.int .i64 x, .int .i64 y, .slice a n cap]
  have z0 := xm.lt
  have B0 := hidden hA
  have BR0 := hidden xm
  obtain ⟨l0, l1, l2⟩ := xm.cells3
  go_enter Try.func4, Try.ntmps4
  go_wp2_with fail
  generalize w.alloc (.cells #[.int .i64 x, .int .i64 y, .slice a n cap] 39) = w0 at hA xm z0 B0 BR0 l0 l1 l2 ⊢
  clear hA xm
  refine (szRec_any _ _ _ _ _ _ _ hnm (by omega) (by omega)).mono ?_
  rintro e w1 ⟨rfl, hb1⟩
  clear l0 l1 l2
  have B1 := hidden (Below.andThen B0.out hb1)
  have BR1 := hidden (BR0.out.below hb1 (by omega))
  have z1 := hb1.size
  clear B0 BR0 hb1
  by_cases hwt : (n : Int) ≤ 1048576
  · have hq := leftOf_pos hwt
    have hwt' : n ≤ 1048576 := by omega
    have hv : (recB x y zs == recB x y zs) = true := by simp
    have hv' : (recB x y zs != recB x y zs) = false := by simp
    obtain ⟨l0, l1, l2⟩ := BR1.out.cells3
    go_wp2_with fail
    refine (toRec_any _ x y _ _ _ zs hl (hr.below B1.out) hwt').mono ?_
    rintro e w2 ⟨g2, rfl, o2, hb2⟩
    clear l0 l1 l2
    have B2 := hidden (Below.andThen B1.out hb2)
    have BR2 := hidden (BR1.out.below hb2 (by omega))
    have z2 := hb2.size
    clear B1 BR1 hb2
    have C2 := hidden o2
    clear o2
    go_wp2_with fail
    refine (specRecOk_any _ x y _ _ _ zs hl (ints_rd C2.out.rd).1 (by omega)).mono ?_
    rintro e w3 ⟨rfl, hb3⟩
    clear C2
    have B3 := hidden (Below.andThen B2.out hb3)
    have BR3 := hidden (BR2.out.below hb3 (by omega))
    have z3 := hb3.size
    clear B2 BR2 hb3
    obtain ⟨l0, l1, l2⟩ := BR3.out.cells3
    go_wp2_with fail
    refine (toRec_any _ x y _ _ _ zs hl (hr.below B3.out) hwt').mono ?_
    rintro e w4 ⟨g4, rfl, o4, hb4⟩
    clear l0 l1 l2
    have B4 := hidden (Below.andThen B3.out hb4)
    have BR4 := hidden (BR3.out.below hb4 (by omega))
    have z4 := hb4.size
    clear B3 BR3 hb4
    have D4 := hidden o4
    clear o4
    have ba : Below w4.heap.size w4 (w4.alloc (.cells #[.int .i64 x, .int .i64 y, .slice (some ⟨g4, 0, none⟩) n n] 26)) := (Below.refl _ _).alloc (Nat.le_refl _) _
    have xb := Box.new w4 26 #[.int .i64 x, .int .i64 y, .slice (some ⟨g4, 0, none⟩) n n]
    have zx := xb.lt
    have B5 := hidden (Below.andThen B4.out ba)
    have BR5 := hidden (BR4.out.below ba (by omega))
    have D5 := hidden (D4.out.below ba)
    have z5 := ba.size
    clear B4 BR4 D4 ba
    have BX5 := hidden xb
    clear xb
    obtain ⟨y0, y1, y2⟩ := BX5.out.cells3
    go_wp2_with fail
    generalize w4.alloc (.cells #[.int .i64 x, .int .i64 y, .slice (some ⟨g4, 0, none⟩) n n] 26) = w5 at B5 BR5 D5 BX5 z5 zx y0 y1 y2 ⊢
    refine (implRecOk_any _ x y _ _ _ zs hl (ints_rd D5.out.rd).1 (by omega)).mono ?_
    rintro e w6 ⟨rfl, hb6⟩
    clear y0 y1 y2
    have B6 := hidden (Below.andThen B5.out hb6)
    have BR6 := hidden (BR5.out.below hb6 (by omega))
    have D6 := hidden (D5.out.below hb6)
    have BX6 := hidden (BX5.out.below hb6 (by omega))
    have z6 := hb6.size
    clear B5 BR5 D5 BX5 hb6
    obtain ⟨y0, y1, y2⟩ := BX6.out.cells3
    obtain ⟨l0, l1, l2⟩ := BR6.out.cells3
    have zl := BR6.out.lt
    have zy := BX6.out.lt
    go_wp2_with fail
    go_region_held3 (fun w' => w'.cell? ⟨w4.heap.size, 0, none⟩ = some (.int .i64 x) ∧ w'.cell? ⟨w4.heap.size, 1, none⟩ = some (.int .i64 y) ∧ w'.cell? ⟨w4.heap.size, 2, none⟩ = some (.slice (some ⟨g4, 0, none⟩) n n) ∧ w'.cell? ⟨w.heap.size, 0, none⟩ = some (.int .i64 x) ∧ w'.cell? ⟨w.heap.size, 1, none⟩ = some (.int .i64 y) ∧ w'.cell? ⟨w.heap.size, 2, none⟩ = some (.slice a n cap))
      (first | (exact ⟨(hb8'.cell (p := ⟨w4.heap.size, 0, none⟩) zy).trans y0, (hb8'.cell (p := ⟨w4.heap.size, 1, none⟩) zy).trans y1, (hb8'.cell (p := ⟨w4.heap.size, 2, none⟩) zy).trans y2, (hb8'.cell (p := ⟨w.heap.size, 0, none⟩) zl).trans l0, (hb8'.cell (p := ⟨w.heap.size, 1, none⟩) zl).trans l1, (hb8'.cell (p := ⟨w.heap.size, 2, none⟩) zl).trans l2⟩) | (exact ⟨(hb7'.cell (p := ⟨w4.heap.size, 0, none⟩) zy).trans y0, (hb7'.cell (p := ⟨w4.heap.size, 1, none⟩) zy).trans y1, (hb7'.cell (p := ⟨w4.heap.size, 2, none⟩) zy).trans y2, (hb7'.cell (p := ⟨w.heap.size, 0, none⟩) zl).trans l0, (hb7'.cell (p := ⟨w.heap.size, 1, none⟩) zl).trans l1, (hb7'.cell (p := ⟨w.heap.size, 2, none⟩) zl).trans l2⟩) | (exact ⟨y0, y1, y2, l0, l1, l2⟩) | go_keep)
      (first
        | (go_at_call 28; refine (toRec_any _ x y _ _ _ zs hl (by exact (hr.below B6.out).draw) hwt').mono ?_; rintro e w7 ⟨ge, rfl, o7, hb7⟩; have hb7' : Below w6.heap.size w6 w7 := (Below.refl w6.heap.size w6).drew.trans hb7)
        | (go_at_call 29; refine (eqRec_same _ x y _ _ _ _ _ zs hl (by exact (ints_rd (D6.out.below hb7').rd).1) (by exact (ints_rd o7.rd).1) (by omega)).mono ?_; rintro e w8 ⟨rfl, hb8⟩; have hb8' : Below w6.heap.size w6 w8 := Below.andThen hb7' hb8))
    clear y0 y1 y2 l0 l1 l2
    clear zl zy o7 hb7 hb8 hb7'
    have B8 := hidden (Below.andThen B6.out hb8')
    have BR8 := hidden (BR6.out.below hb8' (by omega))
    have D8 := hidden (D6.out.below hb8')
    have BX8 := hidden (BX6.out.below hb8' (by omega))
    have z8 := hb8'.size
    clear B6 BR6 D6 BX6 hb8'
    go_wp2
    go_ret
    exact ⟨rfl, B8.out⟩
  · have hq := leftOf_neg (left := 1048576) (wt := n) (by omega)
    go_wp2
    go_ret
    exact ⟨rfl, B1.out⟩

end Go.Proofs.Ytoomkkcobgeinaa
