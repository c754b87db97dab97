/-
  SlotOf and DataAt (the program's and the specification's) answer as the definitions here say, and the walks of their exact laws: at every number the law answers true, and nothing that was there has turned. No condition.
-/
import Derived.Test.YtgjldmjlbhkgbaaWalkIn
namespace Go.Proofs.Ytgjldmjlbhkgbaa
open Go.RowKit

def slotN (x : Int) : Int := if 0 ≤ x then 2 + x % 4 else -1
def dataN (x : Int) : Int := if 0 ≤ x ∧ x ≤ 1099511627776 then x + 6 else -1
theorem implDataAt_any (w : World) (x : Int) : Calls Try.prog 54 #[.int .i64 x] w fun e w' => e = .returned (.int .i64 (dataN x)) ∧ w' = w := by
  by_cases h : 0 ≤ x ∧ x ≤ 1099511627776
  · have e2 : IntKind.i64.wrap (x + 2) = x + 2 := IntWalk.i64_in _ (by omega)
    have e4 : IntKind.i64.wrap (x + 2 + 4) = x + 2 + 4 := IntWalk.i64_in _ (by omega)
    have e3 : IntKind.i64.wrap (6 + x) = 6 + x := IntWalk.i64_in _ (by omega)
    have hv : dataN x = x + 6 := by unfold dataN; rw [if_pos h]
    have hi : inB x 0 1099511627776 = true := by unfold inB; simp; omega
    go_enter Try.func54, Try.ntmps54
    go_wp2_with fail
    refine (within_any _ _ _ _).mono ?_
    rintro e w1 ⟨rfl, rfl⟩
    rw [hi]
    go_wp2
    go_ret
    exact ⟨ret_int (by rw [hv]; omega), rfl⟩
  · have hv : dataN x = -1 := by unfold dataN; rw [if_neg h]
    have hi : inB x 0 1099511627776 = false := by unfold inB; simp; omega
    go_enter Try.func54, Try.ntmps54
    go_wp2_with fail
    refine (within_any _ _ _ _).mono ?_
    rintro e w1 ⟨rfl, rfl⟩
    rw [hi]
    go_wp2
    go_ret
    exact ⟨ret_int (by first | (rw [hv]; done) | rfl | omega), rfl⟩

theorem specDataAt_any (w : World) (x : Int) : Calls Try.prog 32 #[.int .i64 x] w fun e w' => e = .returned (.int .i64 (dataN x)) ∧ w' = w := by
  by_cases h : 0 ≤ x ∧ x ≤ 1099511627776
  · have e2 : IntKind.i64.wrap (x + 2) = x + 2 := IntWalk.i64_in _ (by omega)
    have e4 : IntKind.i64.wrap (x + 2 + 4) = x + 2 + 4 := IntWalk.i64_in _ (by omega)
    have e3 : IntKind.i64.wrap (6 + x) = 6 + x := IntWalk.i64_in _ (by omega)
    have hv : dataN x = x + 6 := by unfold dataN; rw [if_pos h]
    have hi : inB x 0 1099511627776 = true := by unfold inB; simp; omega
    go_enter Try.func32, Try.ntmps32
    go_wp2_with fail
    refine (l1In_any _ _ _ _).mono ?_
    rintro e w1 ⟨rfl, rfl⟩
    rw [hi]
    go_wp2
    go_ret
    exact ⟨ret_int (by rw [hv]; omega), rfl⟩
  · have hv : dataN x = -1 := by unfold dataN; rw [if_neg h]
    have hi : inB x 0 1099511627776 = false := by unfold inB; simp; omega
    go_enter Try.func32, Try.ntmps32
    go_wp2_with fail
    refine (l1In_any _ _ _ _).mono ?_
    rintro e w1 ⟨rfl, rfl⟩
    rw [hi]
    go_wp2
    go_ret
    exact ⟨ret_int (by first | (rw [hv]; done) | rfl | omega), rfl⟩

end Go.Proofs.Ytgjldmjlbhkgbaa
