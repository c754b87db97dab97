/-
  The walk of the exact law of ParityOf: at every argument it answers true, and nothing that was there has turned. No condition.
-/
import Derived.Test.YtmkiljflkndmoalWalkToGeo
import Derived.Test.YtmkiljflkndmoalWalkBlocks
import Derived.Test.YtmkiljflkndmoalWalkGeoSpec
namespace Go.Proofs.Ytmkiljflkndmoal
open Go.RowKit

set_option maxHeartbeats 1600000 in
theorem fnExactParityOf_walk (n s x : Int) (w : World) :
    Calls Try.prog 4 #[.agg #[.int .i64 n, .int .i64 s], .int .i64 x] w fun e w' => e = .returned (.bool true) ∧ Below w.heap.size w w' := by
  have hA := new_below w (.cells #[.int .i64 n, .int .i64 s] 23)
  have X := Gbox.new w 23 n s
  obtain ⟨k0, k1⟩ := X.cells
  have zA := X.lt
  go_enter Try.func4, Try.ntmps4
  go_wp2_with fail
  refine (toGeo_any _ _ _).mono ?_
  rintro e w1 ⟨rfl, b1⟩
  have X1 := X.below b1 zA
  have B1 := Below.andThen hA b1
  clear k0 k1 X b1 hA zA
  obtain ⟨k0, k1⟩ := X1.cells
  go_wp2_with fail
  refine (specParityOf_any _ _ _ _).mono ?_
  rintro e w2 ⟨rfl, b2⟩
  have X2 := X1.below b2 X1.lt
  have B2 := Below.andThen B1 b2
  clear k0 k1 X1 B1 b2
  obtain ⟨k0, k1⟩ := X2.cells
  go_wp2_with fail
  refine (toGeo_any _ _ _).mono ?_
  rintro e w3 ⟨rfl, b3⟩
  have B3 := Below.andThen B2 b3
  clear k0 k1 X2 B2 b3
  go_wp2_with fail
  refine (implParityOf_any _ _ _ _).mono ?_
  rintro e w4 ⟨rfl, b4⟩
  have B4 := Below.andThen B3 b4
  have hq : (parN n s x == parN n s x) = true := by simp
  have hq' : (parN n s x != parN n s x) = false := by simp
  go_wp2
  go_ret
  exact ⟨rfl, B4⟩

end Go.Proofs.Ytmkiljflkndmoal
