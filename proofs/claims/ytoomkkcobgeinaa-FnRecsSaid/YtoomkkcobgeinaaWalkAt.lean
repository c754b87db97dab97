/-
  The walk of the laws' at: a byte of the code, or a number that follows from its length. Condition: at most 2097152 bytes.
-/
import Derived.Test.YtoomkkcobgeinaaWalkCur
namespace Go.Proofs.Ytoomkkcobgeinaa
open Go.RowKit

set_option maxHeartbeats 800000 in
theorem at_any (w : World) (a : Option Addr) (lb cb : Nat) (zs : List Int) (i : Nat) (hz : zs.length = lb) (hr : Reads .u8 w a zs) (hby : ∀ n ∈ zs, 0 ≤ n ∧ n ≤ 255) (hlb : lb ≤ 2097152) (hi : i ≤ 256) :
    Calls Try.prog 23 #[.slice a lb cb, .int .i64 i] w fun e w' => ∃ x : Int, e = .returned (.int .i64 x) ∧ 0 ≤ x ∧ x ≤ 255 ∧ Same w w' := by
  by_cases hlt : i < lb
  · have k1 : (i : Int) < (lb : Int) := by omega
    have k2 : (0 : Int) ≤ (i : Int) := by omega
    rcases hr.cases with h0 | ⟨b, off, rfl, hbl, hcz⟩
    · omega
    have hc := hcz i (by omega)
    have hx : 0 ≤ zs.getD i 0 ∧ zs.getD i 0 ≤ 255 := hby _ (List.mem_iff_getElem?.2 ⟨i, by rw [List.getD_eq_getElem?_getD, List.getElem?_eq_getElem (by omega)]; rfl⟩)
    generalize zs.getD i 0 = x at hc hx
    have gw : IntKind.i64.wrap x = x := IntWalk.i64_in _ (by omega)
    clear hcz
    go_enter Try.func23, Try.ntmps23
    go_wp2
    go_ret
    exact ⟨x, by first | rfl | simp [gw], hx.1, hx.2, Same.refl _⟩
  · have k1 : ¬ (i : Int) < (lb : Int) := by omega
    go_enter Try.func23, Try.ntmps23
    go_wp2
    go_ret
    exact ⟨_, rfl, by omega, by omega, Same.refl _⟩

end Go.Proofs.Ytoomkkcobgeinaa
