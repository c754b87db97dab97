/-
  The walk of the laws' toGeo: the same two numbers. No condition.
-/
import Derived.Test.YtbkkjfgjlapadaaGreatWalkGeo
namespace Go.Proofs.YtbkkjfgjlapadaaGreat
open Go.RowKit

set_option maxHeartbeats 800000 in
theorem toGeo_any (w : World) (n s : Int) : Calls Tryz.prog 167 #[.agg #[.int .i64 n, .int .i64 s]] w fun e w' => e = .returned (.agg #[.int .i64 n, .int .i64 s]) ∧ Below w.heap.size w w' := by
  go_enter Tryz.func167, Tryz.ntmps167
  go_wp2
  refine bodyPost_ret (v := .agg #[.int .i64 n, .int .i64 s]) (by simp [results, Tryz.results167, go_sem]) rfl ?_
  refine ⟨rfl, ?_⟩
  exact ((new_below w _).alloc (by simp) _).alloc (by simp; omega) _

end Go.Proofs.YtbkkjfgjlapadaaGreat
