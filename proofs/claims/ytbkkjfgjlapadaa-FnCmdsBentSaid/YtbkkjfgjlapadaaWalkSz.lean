/-
  The walks of the laws' helpers that weigh slices of int and slices of those: what is left of a bound, or -1. Condition: the bound is between 0 and 1048576.
-/
import Derived.Test.YtbkkjfgjlapadaaData
namespace Go.Proofs.Ytbkkjfgjlapadaa
open Go.RowKit

theorem szIntS_any (w : World) (a : Option Addr) (n cap : Nat) (left : Int) (hn : n ≤ 9223372036854775807) (h0 : 0 ≤ left) (h1 : left ≤ 1048576) :
    Calls Try.prog 37 #[.slice a n cap, .int .i64 left] w fun e w' => e = .returned (.int .i64 (leftOf left n)) ∧ w = w' := by
  by_cases h : (n : Int) ≤ left
  · go_enter Try.func37, Try.ntmps37
    go_wp2
    go_ret
    exact ⟨ret_int ((leftOf_pos (by omega)).symm), rfl⟩
  · go_enter Try.func37, Try.ntmps37
    go_wp2
    go_ret
    exact ⟨ret_int ((leftOf_neg (by omega)).symm), rfl⟩

end Go.Proofs.Ytbkkjfgjlapadaa
