/-
  The walks of both looks (the specification's and the program's) whether a number lies between two others. No condition.
-/
import Derived.Test.YtgjldmjlbhkgbaaGreatKit
import Derived.Test.YtgjldmjlbhkgbaaGreatRows
namespace Go.Proofs.YtgjldmjlbhkgbaaGreat
open Go.RowKit

def inB (x least most : Int) : Bool := decide (least ≤ x) && decide (x ≤ most)
theorem l1In_any (x least most : Int) (w : World) : Calls Tryz.prog 84 #[.int .i64 x, .int .i64 least, .int .i64 most] w fun e w' => e = .returned (.bool (inB x least most)) ∧ w' = w := by
  unfold inB
  by_cases h0 : least ≤ x
  · by_cases h1 : x ≤ most
    · go_enter Tryz.func84, Tryz.ntmps84
      go_wp2
      go_ret
      exact ⟨ret_bool (by simp [h0, h1]), rfl⟩
    · go_enter Tryz.func84, Tryz.ntmps84
      go_wp2
      go_ret
      exact ⟨ret_bool (by symm; simp; omega), rfl⟩
  · go_enter Tryz.func84, Tryz.ntmps84
    go_wp2
    go_ret
    exact ⟨ret_bool (by symm; simp; omega), rfl⟩

theorem within_any (x least most : Int) (w : World) : Calls Tryz.prog 86 #[.int .i64 x, .int .i64 least, .int .i64 most] w fun e w' => e = .returned (.bool (inB x least most)) ∧ w' = w := by
  unfold inB
  by_cases h0 : least ≤ x
  · by_cases h1 : x ≤ most
    · go_enter Tryz.func86, Tryz.ntmps86
      go_wp2
      go_ret
      exact ⟨ret_bool (by simp [h0, h1]), rfl⟩
    · go_enter Tryz.func86, Tryz.ntmps86
      go_wp2
      go_ret
      exact ⟨ret_bool (by symm; simp; omega), rfl⟩
  · go_enter Tryz.func86, Tryz.ntmps86
    go_wp2
    go_ret
    exact ⟨ret_bool (by symm; simp; omega), rfl⟩

end Go.Proofs.YtgjldmjlbhkgbaaGreat
