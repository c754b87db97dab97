/-
  The walk of the program's superPlace. Condition: the number is not below 0.
-/
import Derived.Test.YtgjldmjlbhkgbaaWalkPutSuper
namespace Go.Proofs.Ytgjldmjlbhkgbaa
open Go.RowKit

theorem superPlace_any (g : Int) (w : World) (h : 0 ≤ g) : Calls Try.prog 65 #[.int .i64 g] w fun e w' => e = .returned (.int .i64 (g % 2)) ∧ w' = w := by
  have e1 : g.tmod 2 = g % 2 := Int.tmod_eq_emod_of_nonneg h
  go_enter Try.func65, Try.ntmps65
  go_wp2
  go_ret
  exact ⟨ret_int (by first | rfl | exact e1), rfl⟩

end Go.Proofs.Ytgjldmjlbhkgbaa
