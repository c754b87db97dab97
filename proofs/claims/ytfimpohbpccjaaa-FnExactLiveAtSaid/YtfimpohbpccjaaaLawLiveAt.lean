/-
  The walk of the exact law of LiveAt: at every array it answers true, and nothing that was there has turned. No condition.
-/
import Derived.Test.YtfimpohbpccjaaaWalkArrOk3
import Derived.Test.YtfimpohbpccjaaaWalkImplWords
namespace Go.Proofs.Ytfimpohbpccjaaa
open Go.RowKit

set_option linter.unusedSimpArgs false in
set_option maxRecDepth 20000 in
set_option maxHeartbeats 4000000 in
theorem fnExactLiveAt_walk (x : ArrN) (am ad : Option Addr) (nm cm nd cd : Nat) (ms : List MemD) (ds : List (Int × List Int)) (m : Int) (s : Int) (w : World) (h0 : (tMemS 119 78).Rd w [.slice am nm cm] ms) (h1 : (tWrS 81).Rd w [.slice ad nd cd] ds) :
    Calls Try.prog 3 #[.agg #[.int .i64 x.id, .int .i64 x.n, .int .i64 x.s, .slice am nm cm, .int .i64 x.lost, .int .i64 x.built, .int .i64 x.seq, .int .i64 x.tail, .int .i64 x.gen, .slice ad nd cd, .int .i64 x.fuse, .bool x.down, .bool x.broken], .int .i64 m, .int .i64 s] w fun e w' => e = .returned (.bool true) ∧ Below w.heap.size w w' := by
  have hA := new_below w (.cells #[.int .i64 x.id, .int .i64 x.n, .int .i64 x.s, .slice am nm cm, .int .i64 x.lost, .int .i64 x.built, .int .i64 x.seq, .int .i64 x.tail, .int .i64 x.gen, .slice ad nd cd, .int .i64 x.fuse, .bool x.down, .bool x.broken] 27)
  have xm := Box.new w 27 #[.int .i64 x.id, .int .i64 x.n, .int .i64 x.s, .slice am nm cm, .int .i64 x.lost, .int .i64 x.built, .int .i64 x.seq, .int .i64 x.tail, .int .i64 x.gen, .slice ad nd cd, .int .i64 x.fuse, .bool x.down, .bool x.broken]
  have z0 := xm.lt
  have B0 := hidden hA
  have BR0 := hidden xm
  obtain ⟨l0, l1, l2, l3, l4, l5, l6, l7, l8, l9, l10, l11, l12⟩ := xm.cells13
  go_enter Try.func3, Try.ntmps3
  go_wp2_with fail
  generalize w.alloc (.cells #[.int .i64 x.id, .int .i64 x.n, .int .i64 x.s, .slice am nm cm, .int .i64 x.lost, .int .i64 x.built, .int .i64 x.seq, .int .i64 x.tail, .int .i64 x.gen, .slice ad nd cd, .int .i64 x.fuse, .bool x.down, .bool x.broken] 27) = w0 at hA xm z0 B0 BR0 l0 l1 l2 l3 l4 l5 l6 l7 l8 l9 l10 l11 l12 ⊢
  clear hA xm
  refine (szArr_any _ 119 78 81 x _ _ _ _ _ _ ms ds _ (h0.below B0.out) (h1.below B0.out) (by omega) (by omega)).mono ?_
  rintro e w1 ⟨rfl, hb1⟩
  clear l0 l1 l2 l3 l4 l5 l6 l7 l8 l9 l10 l11 l12
  have B1 := hidden (Below.andThen B0.out hb1)
  have BR1 := hidden (BR0.out.below hb1 (by omega))
  have z1 := hb1.size
  clear B0 BR0 hb1
  by_cases hwt : (wtArr ms ds : Int) ≤ 1048576
  · have hq := leftOf_pos hwt
    have hwt' : wtArr ms ds ≤ 1048576 := by omega
    have hwt2 : wtArr ms ds ≤ 2097152 := by omega
    have hv : ((liveB x ms m s) == (liveB x ms m s)) = true := by simp
    have hv' : ((liveB x ms m s) != (liveB x ms m s)) = false := by simp
    have hwtm : wtMemS ms ≤ 2097152 := by unfold wtArr at hwt2; omega
    obtain ⟨l0, l1, l2, l3, l4, l5, l6, l7, l8, l9, l10, l11, l12⟩ := BR1.out.cells13
    go_wp2_with fail
    refine (toArr_any _ 119 78 81 x _ _ _ _ _ _ ms ds (h0.below B1.out) (h1.below B1.out) hwt').mono ?_
    rintro e w2 ⟨bm2, bd2, rfl, om2, od2, ya2, yb2, hb2⟩
    clear l0 l1 l2 l3 l4 l5 l6 l7 l8 l9 l10 l11 l12
    have B2 := hidden (Below.andThen B1.out hb2)
    have BR2 := hidden (BR1.out.below hb2 (by omega))
    have z2 := hb2.size
    clear B1 BR1 hb2
    have Cm2 := hidden om2
    clear om2
    have Cd2 := hidden od2
    clear od2
    go_wp2_with fail
    refine (specLiveAt_any _ 114 54 x _ _ _ _ _ _ ms m s Cm2.out.rd hwtm).mono ?_
    rintro e w3 ⟨rfl, hb3⟩
    clear Cm2
    clear Cd2
    have B3 := hidden (Below.andThen B2.out hb3)
    have BR3 := hidden (BR2.out.below hb3 (by omega))
    have z3 := hb3.size
    clear B2 BR2 hb3
    obtain ⟨l0, l1, l2, l3, l4, l5, l6, l7, l8, l9, l10, l11, l12⟩ := BR3.out.cells13
    go_wp2_with fail
    refine (toArr_any _ 119 78 81 x _ _ _ _ _ _ ms ds (h0.below B3.out) (h1.below B3.out) hwt').mono ?_
    rintro e w4 ⟨bm4, bd4, rfl, om4, od4, ya4, yb4, hb4⟩
    clear l0 l1 l2 l3 l4 l5 l6 l7 l8 l9 l10 l11 l12
    have B4 := hidden (Below.andThen B3.out hb4)
    have BR4 := hidden (BR3.out.below hb4 (by omega))
    have z4 := hb4.size
    clear B3 BR3 hb4
    have Dm4 := hidden om4
    clear om4
    have Dd4 := hidden od4
    clear od4
    have ba : Below w4.heap.size w4 (w4.alloc (.cells #[.int .i64 x.id, .int .i64 x.n, .int .i64 x.s, .slice (some ⟨bm4, 0, none⟩) nm nm, .int .i64 x.lost, .int .i64 x.built, .int .i64 x.seq, .int .i64 x.tail, .int .i64 x.gen, .slice (some ⟨bd4, 0, none⟩) nd nd, .int .i64 x.fuse, .bool x.down, .bool x.broken] 34)) := (Below.refl _ _).alloc (Nat.le_refl _) _
    have xb := Box.new w4 34 #[.int .i64 x.id, .int .i64 x.n, .int .i64 x.s, .slice (some ⟨bm4, 0, none⟩) nm nm, .int .i64 x.lost, .int .i64 x.built, .int .i64 x.seq, .int .i64 x.tail, .int .i64 x.gen, .slice (some ⟨bd4, 0, none⟩) nd nd, .int .i64 x.fuse, .bool x.down, .bool x.broken]
    have zx := xb.lt
    have B5 := hidden (Below.andThen B4.out ba)
    have BR5 := hidden (BR4.out.below ba (by omega))
    have Dm5 := hidden (Dm4.out.below ba)
    have Dd5 := hidden (Dd4.out.below ba)
    have z5 := ba.size
    clear B4 BR4 Dm4 Dd4 ba
    have BX5 := hidden xb
    clear xb
    obtain ⟨q0, q1, q2, q3, q4, q5, q6, q7, q8, q9, q10, q11, q12⟩ := BX5.out.cells13
    go_wp2_with fail
    generalize w4.alloc (.cells #[.int .i64 x.id, .int .i64 x.n, .int .i64 x.s, .slice (some ⟨bm4, 0, none⟩) nm nm, .int .i64 x.lost, .int .i64 x.built, .int .i64 x.seq, .int .i64 x.tail, .int .i64 x.gen, .slice (some ⟨bd4, 0, none⟩) nd nd, .int .i64 x.fuse, .bool x.down, .bool x.broken] 34) = w5 at B5 BR5 Dm5 Dd5 BX5 z5 zx q0 q1 q2 q3 q4 q5 q6 q7 q8 q9 q10 q11 q12 ⊢
    refine (implLiveAt_any _ 114 54 83 x _ _ _ _ _ _ ms ds m s Dm5.out.rd Dd5.out.rd hwt2).mono ?_
    rintro e w6 ⟨rfl, hb6⟩
    clear q0 q1 q2 q3 q4 q5 q6 q7 q8 q9 q10 q11 q12
    have B6 := hidden (Below.andThen B5.out hb6)
    have BR6 := hidden (BR5.out.below hb6 (by omega))
    have Dm6 := hidden (Dm5.out.below hb6)
    have Dd6 := hidden (Dd5.out.below hb6)
    have BX6 := hidden (BX5.out.below hb6 (by omega))
    have z6 := hb6.size
    clear B5 BR5 Dm5 Dd5 BX5 hb6
    obtain ⟨y0, y1, y2, y3, y4, y5, y6, y7, y8, y9, y10, y11, y12⟩ := BX6.out.cells13
    obtain ⟨l0, l1, l2, l3, l4, l5, l6, l7, l8, l9, l10, l11, l12⟩ := BR6.out.cells13
    have zl := BR6.out.lt
    have zy := BX6.out.lt
    go_wp2_with fail
    refine wp_region_held_drew (S := fun w' => w'.cell? ⟨w4.heap.size, 0, none⟩ = some (.int .i64 x.id) ∧ w'.cell? ⟨w4.heap.size, 1, none⟩ = some (.int .i64 x.n) ∧ w'.cell? ⟨w4.heap.size, 2, none⟩ = some (.int .i64 x.s) ∧ w'.cell? ⟨w4.heap.size, 3, none⟩ = some (.slice (some ⟨bm4, 0, none⟩) nm nm) ∧ w'.cell? ⟨w4.heap.size, 4, none⟩ = some (.int .i64 x.lost) ∧ w'.cell? ⟨w4.heap.size, 5, none⟩ = some (.int .i64 x.built) ∧ w'.cell? ⟨w4.heap.size, 6, none⟩ = some (.int .i64 x.seq) ∧ w'.cell? ⟨w4.heap.size, 7, none⟩ = some (.int .i64 x.tail) ∧ w'.cell? ⟨w4.heap.size, 8, none⟩ = some (.int .i64 x.gen) ∧ w'.cell? ⟨w4.heap.size, 9, none⟩ = some (.slice (some ⟨bd4, 0, none⟩) nd nd) ∧ w'.cell? ⟨w4.heap.size, 10, none⟩ = some (.int .i64 x.fuse) ∧ w'.cell? ⟨w4.heap.size, 11, none⟩ = some (.bool x.down) ∧ w'.cell? ⟨w4.heap.size, 12, none⟩ = some (.bool x.broken) ∧ w'.cell? ⟨w.heap.size, 0, none⟩ = some (.int .i64 x.id) ∧ w'.cell? ⟨w.heap.size, 1, none⟩ = some (.int .i64 x.n) ∧ w'.cell? ⟨w.heap.size, 2, none⟩ = some (.int .i64 x.s) ∧ w'.cell? ⟨w.heap.size, 3, none⟩ = some (.slice am nm cm) ∧ w'.cell? ⟨w.heap.size, 4, none⟩ = some (.int .i64 x.lost) ∧ w'.cell? ⟨w.heap.size, 5, none⟩ = some (.int .i64 x.built) ∧ w'.cell? ⟨w.heap.size, 6, none⟩ = some (.int .i64 x.seq) ∧ w'.cell? ⟨w.heap.size, 7, none⟩ = some (.int .i64 x.tail) ∧ w'.cell? ⟨w.heap.size, 8, none⟩ = some (.int .i64 x.gen) ∧ w'.cell? ⟨w.heap.size, 9, none⟩ = some (.slice ad nd cd) ∧ w'.cell? ⟨w.heap.size, 10, none⟩ = some (.int .i64 x.fuse) ∧ w'.cell? ⟨w.heap.size, 11, none⟩ = some (.bool x.down) ∧ w'.cell? ⟨w.heap.size, 12, none⟩ = some (.bool x.broken)) (by kernel_rfl) ?_ (fun hHeld => ?_)
    · exact ⟨y0, y1, y2, y3, y4, y5, y6, y7, y8, y9, y10, y11, y12, l0, l1, l2, l3, l4, l5, l6, l7, l8, l9, l10, l11, l12⟩
    refine held_take (i := 0) (v := ?_) rfl (by kernel_rfl) (by kernel_rfl) (by kernel_rfl) (fun _ _ _ h => h) (by kernel_rfl) ?_ hHeld ?_
    rotate_left 1
    · (intro w hSw; (try dsimp only at hSw); go_split_ands; go_simp; first | done | with_reducible rfl)
    simp only [Act.put, List.setIfInBounds_toArray, List.set_cons_zero, List.set_cons_succ]
    refine held_take (i := 1) (v := ?_) rfl (by kernel_rfl) (by kernel_rfl) (by kernel_rfl) (fun _ _ _ h => h) (by kernel_rfl) ?_ hHeld ?_
    rotate_left 1
    · (intro w hSw; (try dsimp only at hSw); go_split_ands; go_simp; first | done | with_reducible rfl)
    simp only [Act.put, List.setIfInBounds_toArray, List.set_cons_zero, List.set_cons_succ]
    refine held_one (i := 2) (by kernel_rfl) rfl (by kernel_rfl) (fun K hK => ?_)
    go_simp
    refine (toArr_any _ 119 78 81 x _ _ _ _ _ _ ms ds (h0.below B6.out).drew (h1.below B6.out).drew hwt').mono ?_
    rintro e w7 ⟨bm7, bd7, rfl, om7, od7, ya7, yb7, hb7⟩
    have hb7' : Below w6.heap.size w6 w7 := (Below.refl w6.heap.size w6).drew.trans hb7
    go_wp2_with fail
    clear hHeld
    refine hK.out _ _ ?_ (fun hHeld => ?_)
    · exact ⟨(hb7'.cell (p := ⟨w4.heap.size, 0, none⟩) zy).trans y0, (hb7'.cell (p := ⟨w4.heap.size, 1, none⟩) zy).trans y1, (hb7'.cell (p := ⟨w4.heap.size, 2, none⟩) zy).trans y2, (hb7'.cell (p := ⟨w4.heap.size, 3, none⟩) zy).trans y3, (hb7'.cell (p := ⟨w4.heap.size, 4, none⟩) zy).trans y4, (hb7'.cell (p := ⟨w4.heap.size, 5, none⟩) zy).trans y5, (hb7'.cell (p := ⟨w4.heap.size, 6, none⟩) zy).trans y6, (hb7'.cell (p := ⟨w4.heap.size, 7, none⟩) zy).trans y7, (hb7'.cell (p := ⟨w4.heap.size, 8, none⟩) zy).trans y8, (hb7'.cell (p := ⟨w4.heap.size, 9, none⟩) zy).trans y9, (hb7'.cell (p := ⟨w4.heap.size, 10, none⟩) zy).trans y10, (hb7'.cell (p := ⟨w4.heap.size, 11, none⟩) zy).trans y11, (hb7'.cell (p := ⟨w4.heap.size, 12, none⟩) zy).trans y12, (hb7'.cell (p := ⟨w.heap.size, 0, none⟩) zl).trans l0, (hb7'.cell (p := ⟨w.heap.size, 1, none⟩) zl).trans l1, (hb7'.cell (p := ⟨w.heap.size, 2, none⟩) zl).trans l2, (hb7'.cell (p := ⟨w.heap.size, 3, none⟩) zl).trans l3, (hb7'.cell (p := ⟨w.heap.size, 4, none⟩) zl).trans l4, (hb7'.cell (p := ⟨w.heap.size, 5, none⟩) zl).trans l5, (hb7'.cell (p := ⟨w.heap.size, 6, none⟩) zl).trans l6, (hb7'.cell (p := ⟨w.heap.size, 7, none⟩) zl).trans l7, (hb7'.cell (p := ⟨w.heap.size, 8, none⟩) zl).trans l8, (hb7'.cell (p := ⟨w.heap.size, 9, none⟩) zl).trans l9, (hb7'.cell (p := ⟨w.heap.size, 10, none⟩) zl).trans l10, (hb7'.cell (p := ⟨w.heap.size, 11, none⟩) zl).trans l11, (hb7'.cell (p := ⟨w.heap.size, 12, none⟩) zl).trans l12⟩
    clear hK K
    refine held_one (i := 3) (by kernel_rfl) rfl (by kernel_rfl) (fun K hK => ?_)
    go_simp
    refine (eqArr_same _ 114 114 54 54 83 83 x _ _ _ _ _ _ _ _ _ _ _ _ ms ds (Dm6.out.below hb7').rd (Dd6.out.below hb7').rd om7.rd od7.rd hwt2).mono ?_
    rintro e w8 ⟨rfl, hb8⟩
    have hb8' : Below w6.heap.size w6 w8 := Below.andThen hb7' hb8
    go_wp2_with fail
    clear hHeld
    refine hK.out _ _ ?_ (fun hHeld => ?_)
    · exact ⟨(hb8'.cell (p := ⟨w4.heap.size, 0, none⟩) zy).trans y0, (hb8'.cell (p := ⟨w4.heap.size, 1, none⟩) zy).trans y1, (hb8'.cell (p := ⟨w4.heap.size, 2, none⟩) zy).trans y2, (hb8'.cell (p := ⟨w4.heap.size, 3, none⟩) zy).trans y3, (hb8'.cell (p := ⟨w4.heap.size, 4, none⟩) zy).trans y4, (hb8'.cell (p := ⟨w4.heap.size, 5, none⟩) zy).trans y5, (hb8'.cell (p := ⟨w4.heap.size, 6, none⟩) zy).trans y6, (hb8'.cell (p := ⟨w4.heap.size, 7, none⟩) zy).trans y7, (hb8'.cell (p := ⟨w4.heap.size, 8, none⟩) zy).trans y8, (hb8'.cell (p := ⟨w4.heap.size, 9, none⟩) zy).trans y9, (hb8'.cell (p := ⟨w4.heap.size, 10, none⟩) zy).trans y10, (hb8'.cell (p := ⟨w4.heap.size, 11, none⟩) zy).trans y11, (hb8'.cell (p := ⟨w4.heap.size, 12, none⟩) zy).trans y12, (hb8'.cell (p := ⟨w.heap.size, 0, none⟩) zl).trans l0, (hb8'.cell (p := ⟨w.heap.size, 1, none⟩) zl).trans l1, (hb8'.cell (p := ⟨w.heap.size, 2, none⟩) zl).trans l2, (hb8'.cell (p := ⟨w.heap.size, 3, none⟩) zl).trans l3, (hb8'.cell (p := ⟨w.heap.size, 4, none⟩) zl).trans l4, (hb8'.cell (p := ⟨w.heap.size, 5, none⟩) zl).trans l5, (hb8'.cell (p := ⟨w.heap.size, 6, none⟩) zl).trans l6, (hb8'.cell (p := ⟨w.heap.size, 7, none⟩) zl).trans l7, (hb8'.cell (p := ⟨w.heap.size, 8, none⟩) zl).trans l8, (hb8'.cell (p := ⟨w.heap.size, 9, none⟩) zl).trans l9, (hb8'.cell (p := ⟨w.heap.size, 10, none⟩) zl).trans l10, (hb8'.cell (p := ⟨w.heap.size, 11, none⟩) zl).trans l11, (hb8'.cell (p := ⟨w.heap.size, 12, none⟩) zl).trans l12⟩
    clear hK K
    refine held_take (i := 4) (v := ?_) rfl (by kernel_rfl) (by kernel_rfl) (by kernel_rfl) (fun _ _ _ h => h) (by kernel_rfl) ?_ hHeld ?_
    rotate_left 1
    · (intro w hSw; (try dsimp only at hSw); go_split_ands; go_simp; first | done | with_reducible rfl)
    simp only [Act.put, List.setIfInBounds_toArray, List.set_cons_zero, List.set_cons_succ]
    refine wpAnyH_done (by kernel_rfl) ?_ _
    clear hHeld
    clear y0 y1 y2 y3 y4 y5 y6 y7 y8 y9 y10 y11 y12 l0 l1 l2 l3 l4 l5 l6 l7 l8 l9 l10 l11 l12
    clear zl zy om7 od7 ya7 yb7 hb7 hb8 hb7'
    have B8 := hidden (Below.andThen B6.out hb8')
    have BR8 := hidden (BR6.out.below hb8' (by omega))
    have Dm8 := hidden (Dm6.out.below hb8')
    have Dd8 := hidden (Dd6.out.below hb8')
    have BX8 := hidden (BX6.out.below hb8' (by omega))
    have z8 := hb8'.size
    clear B6 BR6 Dm6 Dd6 BX6 hb8'
    go_wp2
    go_ret
    exact ⟨rfl, B8.out⟩
  · have hq := leftOf_neg (left := 1048576) (wt := wtArr ms ds) (by omega)
    go_wp2
    go_ret
    exact ⟨rfl, B1.out⟩

end Go.Proofs.Ytfimpohbpccjaaa
