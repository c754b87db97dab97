/-
  The walks of both looks (the specification's and the program's) whether a number lies between two others. No condition.
-/
import Derived.Test.YtbkkjfgjlapadaaGreatKit
import Derived.Test.YtbkkjfgjlapadaaGreatRows
namespace Go.Proofs.YtbkkjfgjlapadaaGreat
open Go.RowKit

def inB (x least most : Int) : Bool := decide (least ≤ x) && decide (x ≤ most)
theorem l1In_any (x least most : Int) (w : World) : Calls Tryz.prog 71 #[.int .i64 x, .int .i64 least, .int .i64 most] w fun e w' => e = .returned (.bool (inB x least most)) ∧ w' = w := by
  unfold inB
  by_cases h0 : least ≤ x
  · by_cases h1 : x ≤ most
    · go_enter Tryz.func71, Tryz.ntmps71
      go_wp2
      go_ret
      exact ⟨ret_bool (by simp [h0, h1]), rfl⟩
    · go_enter Tryz.func71, Tryz.ntmps71
      go_wp2
      go_ret
      exact ⟨ret_bool (by symm; simp; omega), rfl⟩
  · go_enter Tryz.func71, Tryz.ntmps71
    go_wp2
    go_ret
    exact ⟨ret_bool (by symm; simp; omega), rfl⟩

theorem within_any (x least most : Int) (w : World) : Calls Tryz.prog 74 #[.int .i64 x, .int .i64 least, .int .i64 most] w fun e w' => e = .returned (.bool (inB x least most)) ∧ w' = w := by
  unfold inB
  by_cases h0 : least ≤ x
  · by_cases h1 : x ≤ most
    · go_enter Tryz.func74, Tryz.ntmps74
      go_wp2
      go_ret
      exact ⟨ret_bool (by simp [h0, h1]), rfl⟩
    · go_enter Tryz.func74, Tryz.ntmps74
      go_wp2
      go_ret
      exact ⟨ret_bool (by symm; simp; omega), rfl⟩
  · go_enter Tryz.func74, Tryz.ntmps74
    go_wp2
    go_ret
    exact ⟨ret_bool (by symm; simp; omega), rfl⟩

end Go.Proofs.YtbkkjfgjlapadaaGreat
