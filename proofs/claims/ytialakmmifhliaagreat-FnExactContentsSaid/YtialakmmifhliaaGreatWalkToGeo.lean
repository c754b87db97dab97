/-
  The walk of the laws' toGeo: the same two numbers. No condition.
-/
import Derived.Test.YtialakmmifhliaaGreatWalkGeo
namespace Go.Proofs.YtialakmmifhliaaGreat
open Go.RowKit

set_option maxHeartbeats 800000 in
theorem toGeo_any (w : World) (n s : Int) : Calls Tryz.prog 17 #[.agg #[.int .i64 n, .int .i64 s]] w fun e w' => e = .returned (.agg #[.int .i64 n, .int .i64 s]) ∧ Below w.heap.size w w' := by
  go_enter Tryz.func17, Tryz.ntmps17
  go_wp2
  refine bodyPost_ret (v := .agg #[.int .i64 n, .int .i64 s]) (by simp [results, Tryz.results17, go_sem]) rfl ?_
  refine ⟨rfl, ?_⟩
  exact ((new_below w _).alloc (by simp) _).alloc (by simp; omega) _

end Go.Proofs.YtialakmmifhliaaGreat
