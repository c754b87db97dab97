/-
  The walks of both looks (the specification's and the program's) whether a number lies between two others. No condition.
-/
import Derived.Test.YtbkkjfgjlapadaaKit
import Derived.Test.YtbkkjfgjlapadaaRows
namespace Go.Proofs.Ytbkkjfgjlapadaa
open Go.RowKit

def inB (x least most : Int) : Bool := decide (least ≤ x) && decide (x ≤ most)
theorem l1In_any (x least most : Int) (w : World) : Calls Try.prog 33 #[.int .i64 x, .int .i64 least, .int .i64 most] w fun e w' => e = .returned (.bool (inB x least most)) ∧ w' = w := by
  unfold inB
  by_cases h0 : least ≤ x
  · by_cases h1 : x ≤ most
    · go_enter Try.func33, Try.ntmps33
      go_wp2
      go_ret
      exact ⟨ret_bool (by simp [h0, h1]), rfl⟩
    · go_enter Try.func33, Try.ntmps33
      go_wp2
      go_ret
      exact ⟨ret_bool (by symm; simp; omega), rfl⟩
  · go_enter Try.func33, Try.ntmps33
    go_wp2
    go_ret
    exact ⟨ret_bool (by symm; simp; omega), rfl⟩

theorem within_any (x least most : Int) (w : World) : Calls Try.prog 30 #[.int .i64 x, .int .i64 least, .int .i64 most] w fun e w' => e = .returned (.bool (inB x least most)) ∧ w' = w := by
  unfold inB
  by_cases h0 : least ≤ x
  · by_cases h1 : x ≤ most
    · go_enter Try.func30, Try.ntmps30
      go_wp2
      go_ret
      exact ⟨ret_bool (by simp [h0, h1]), rfl⟩
    · go_enter Try.func30, Try.ntmps30
      go_wp2
      go_ret
      exact ⟨ret_bool (by symm; simp; omega), rfl⟩
  · go_enter Try.func30, Try.ntmps30
    go_wp2
    go_ret
    exact ⟨ret_bool (by symm; simp; omega), rfl⟩

end Go.Proofs.Ytbkkjfgjlapadaa
