/-
  The walks of the specification's l2Has and of slices.Contains over a slice of int: whether a number is among them. Condition: at most 2097152 elements.
-/
import Derived.Test.YtmkiljflkndmoaaWalkL2Has
namespace Go.Proofs.Ytmkiljflkndmoaa
open Go.RowKit

theorem slicesIndex_any (w : World) (a : Option Addr) (len cap : Nat) (zs : List Int) (n : Int) (hz : zs.length = len) (hr : Reads .i64 w a zs) (hlen : len ≤ 2097152) :
    Calls Try.prog 86 #[.slice a len cap, .int .i64 n] w fun e w' => ∃ r : Int, e = .returned (.int .i64 r) ∧ decide (0 ≤ r) = inL zs n ∧ Same w w' := by
  go_enter Try.func86, Try.ntmps86
  go_wp2
  go_loop [8] (fun i => ∃ j : Nat, j ≤ len ∧ i = .int .i64 j ∧ inL (zs.take j) n = false) (fun i => len - (intOf i).toNat)
  case atStart => exact ⟨0, Nat.zero_le _, rfl, rfl⟩
  case round =>
    obtain ⟨j, hj, rfl, ht⟩ := hrel
    by_cases hlt : j < len
    · rcases hr.cases with h0 | ⟨b, off, rfl, hbl, hc⟩
      · omega
      have hc1 := hc j (by omega)
      have hd := inL_step (zs := zs) (n := n) (j := j) (by omega) rfl
      generalize zs.getD j 0 = x at hc1 hd
      have HT := hidden ht
      clear hc ht
      by_cases hx : x = n
      · have HD := hidden (hd.1 hx)
        subst hx
        clear hd
        go_wp2
        go_ret
        exact ⟨_, rfl, by rw [HD.out]; simp, Same.refl _⟩
      · have HD := hidden (hd.2 hx HT.out)
        have hx' : ¬ n = x := fun e => hx e.symm
        clear hd
        go_wp2
        go_round
        case rel => exact ⟨j + 1, by omega, by go_num, HD.out⟩
        case measure => simp [intOf]; omega
    · go_wp2
      go_ret
      have e : j = len := by omega
      subst e
      rw [List.take_of_length_le (by omega)] at ht
      exact ⟨_, rfl, by rw [ht]; rfl, Same.refl _⟩

theorem slicesContains_any (w : World) (a : Option Addr) (len cap : Nat) (zs : List Int) (n : Int) (hz : zs.length = len) (hr : Reads .i64 w a zs) (hlen : len ≤ 2097152) :
    Calls Try.prog 72 #[.slice a len cap, .int .i64 n] w fun e w' => e = .returned (.bool (inL zs n)) ∧ Same w w' := by
  go_enter Try.func72, Try.ntmps72
  go_wp2_with fail
  refine (slicesIndex_any _ _ _ _ zs n hz hr hlen).mono ?_
  rintro e w1 ⟨r, rfl, hr1, hs1⟩
  go_wp2
  go_ret
  exact ⟨ret_bool (by rw [← hr1]), hs1⟩

end Go.Proofs.Ytmkiljflkndmoaa
