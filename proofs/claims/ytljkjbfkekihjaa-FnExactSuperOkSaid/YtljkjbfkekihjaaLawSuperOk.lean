/-
  The walk of the exact law of SuperOk: at every Super it answers true, and nothing that was there has turned. No condition.
-/
import Derived.Test.YtljkjbfkekihjaaWalkPutSuper
namespace Go.Proofs.Ytljkjbfkekihjaa
open Go.RowKit

set_option maxHeartbeats 4000000 in
theorem fnExactSuperOk_walk (x : Sup) (w : World) :
    Calls Try.prog 5 #[.agg #[.int .i64 x.id, .int .i64 x.gen, .int .i64 x.role, .int .i64 x.n, .int .i64 x.s, .int .i64 x.tail, .int .i64 x.lost, .int .i64 x.built]] w fun e w' => e = .returned (.bool true) ∧ Below w.heap.size w w' := by
  have hA := new_below w (.cells #[.int .i64 x.id, .int .i64 x.gen, .int .i64 x.role, .int .i64 x.n, .int .i64 x.s, .int .i64 x.tail, .int .i64 x.lost, .int .i64 x.built] 45)
  have xm := Box.new w 45 #[.int .i64 x.id, .int .i64 x.gen, .int .i64 x.role, .int .i64 x.n, .int .i64 x.s, .int .i64 x.tail, .int .i64 x.lost, .int .i64 x.built]
  have z0 := xm.lt
  have B0 := hidden hA
  have BS0 := hidden xm
  go_enter Try.func5, Try.ntmps5
  obtain ⟨l0, l1, l2, l3, l4, l5, l6, l7⟩ := BS0.out.cells8
  go_wp2_with fail
  generalize w.alloc (.cells #[.int .i64 x.id, .int .i64 x.gen, .int .i64 x.role, .int .i64 x.n, .int .i64 x.s, .int .i64 x.tail, .int .i64 x.lost, .int .i64 x.built] 45) = w0 at hA xm z0 B0 BS0 l0 l1 l2 l3 l4 l5 l6 l7 ⊢
  clear hA xm
  refine (toSuper_any _ x).mono ?_
  rintro e w1 ⟨rfl, hb1⟩
  clear l0 l1 l2 l3 l4 l5 l6 l7
  have B1 := hidden (Below.andThen B0.out hb1)
  have BS1 := hidden (BS0.out.below hb1 (by omega))
  have z1 := hb1.size
  clear B0 BS0 hb1
  go_wp2_with fail
  refine (specSuperOk_any _ x).mono ?_
  rintro e w2 ⟨rfl, hb2⟩
  have B2 := hidden (Below.andThen B1.out hb2)
  have BS2 := hidden (BS1.out.below hb2 (by omega))
  have z2 := hb2.size
  clear B1 BS1 hb2
  obtain ⟨l0, l1, l2, l3, l4, l5, l6, l7⟩ := BS2.out.cells8
  go_wp2_with fail
  refine (toSuper_any _ x).mono ?_
  rintro e w3 ⟨rfl, hb3⟩
  clear l0 l1 l2 l3 l4 l5 l6 l7
  have B3 := hidden (Below.andThen B2.out hb3)
  have BS3 := hidden (BS2.out.below hb3 (by omega))
  have z3 := hb3.size
  clear B2 BS2 hb3
  go_wp2_with fail
  refine (implSuperOk_any _ x).mono ?_
  rintro e w4 ⟨rfl, hb4⟩
  have B4 := hidden (Below.andThen B3.out hb4)
  have BS4 := hidden (BS3.out.below hb4 (by omega))
  have z4 := hb4.size
  clear B3 BS3 hb4
  have hq : (supB x == supB x) = true := by simp
  have hq' : (supB x != supB x) = false := by simp
  go_wp2
  go_ret
  exact ⟨rfl, B4.out⟩

end Go.Proofs.Ytljkjbfkekihjaa
