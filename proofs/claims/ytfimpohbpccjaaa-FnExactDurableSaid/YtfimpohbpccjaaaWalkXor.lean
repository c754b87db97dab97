/-
  The walks of both XorOf (the program's and the specification's): each answers all numbers together, by xor. Condition: at most 2097152 elements.
-/
import Derived.Test.YtfimpohbpccjaaaRows
import Derived.Test.YtfimpohbpccjaaaXors
namespace Go.Proofs.Ytfimpohbpccjaaa
open Go.RowKit

theorem implXorOf_any (w : World) (a : Option Addr) (len cap : Nat) (zs : List Int) (hz : zs.length = len) (hr : Reads .i64 w a zs) (hlen : len ≤ 2097152) :
    Calls Try.prog 69 #[.slice a len cap] w fun e w' => e = .returned (.int .i64 (xorL zs)) ∧ Same w w' := by
  go_enter Try.func69, Try.ntmps69
  go_wp2
  go_loop [3, 8] (fun n i => ∃ j : Nat, j ≤ len ∧ i = .int .i64 j ∧ n = .int .i64 (xorL (zs.take j))) (fun _ i => len - (intOf i).toNat)
  case atStart => exact ⟨0, Nat.zero_le _, rfl, rfl⟩
  case round =>
    obtain ⟨j, hj, rfl, rfl⟩ := hrel
    by_cases hlt : j < len
    · rcases hr.cases with h0 | ⟨b, off, rfl, hbl, hc⟩
      · omega
      have hc1 := hc j (by omega)
      have HX : Hid (bits BinOp.xor IntKind.i64 (xorL (zs.take j)) (zs.getD j 0) = xorL (zs.take (j + 1))) := xorL_step (by omega) rfl
      generalize zs.getD j 0 = x at hc1 HX
      clear hc
      go_wp2
      go_round
      case rel => exact ⟨j + 1, by omega, by go_num, by rw [HX.out]⟩
      case measure => simp [intOf]; omega
    · go_wp2
      go_ret
      have e : j = len := by omega
      subst e
      exact ⟨ret_int (by rw [List.take_of_length_le (by omega)]), Same.refl _⟩

end Go.Proofs.Ytfimpohbpccjaaa
