/-
  The walk of the specification's l2Has: whether a number is among them. Condition: at most 2097152 elements.
-/
import Derived.Test.YtfimpohbpccjaaaWalkSecOk
namespace Go.Proofs.Ytfimpohbpccjaaa
open Go.RowKit

def inL (zs : List Int) (n : Int) : Bool := zs.any fun x => decide (x = n)

theorem inL_step {zs : List Int} {n x : Int} {j : Nat} (h : j < zs.length) (hx : zs.getD j 0 = x) : (x = n → inL zs n = true) ∧ (x ≠ n → inL (zs.take j) n = false → inL (zs.take (j + 1)) n = false) := by
  have e : zs[j] = x := by rw [← hx]; simp [List.getElem?_eq_getElem h]
  refine ⟨fun h1 => ?_, fun h1 h2 => ?_⟩
  · unfold inL
    rw [List.any_eq_true]
    exact ⟨x, by rw [← e]; exact List.getElem_mem h, by simp [h1]⟩
  · unfold inL at *
    rw [List.take_succ_eq_append_getElem h, List.any_append, h2, e]
    simp [h1]

theorem l2Has_any (w : World) (a : Option Addr) (len cap : Nat) (zs : List Int) (n : Int) (hz : zs.length = len) (hr : Reads .i64 w a zs) (hlen : len ≤ 2097152) :
    Calls Try.prog 100 #[.slice a len cap, .int .i64 n] w fun e w' => e = .returned (.bool (inL zs n)) ∧ Same w w' := by
  go_enter Try.func100, Try.ntmps100
  go_wp2
  go_loop [5] (fun i => ∃ j : Nat, j ≤ len ∧ i = .int .i64 j ∧ inL (zs.take j) n = false) (fun i => len - (intOf i).toNat)
  case atStart => exact ⟨0, Nat.zero_le _, rfl, rfl⟩
  case round =>
    obtain ⟨j, hj, rfl, ht⟩ := hrel
    by_cases hlt : j < len
    · rcases hr.cases with h0 | ⟨b, off, rfl, hbl, hc⟩
      · omega
      have hc1 := hc j (by omega)
      have hd := inL_step (zs := zs) (n := n) (j := j) (by omega) rfl
      generalize zs.getD j 0 = x at hc1 hd
      have HT := hidden ht
      clear hc ht
      by_cases hx : x = n
      · have HD := hidden (hd.1 hx)
        clear hd
        go_wp2
        go_ret
        exact ⟨ret_bool HD.out.symm, Same.refl _⟩
      · have HD := hidden (hd.2 hx HT.out)
        clear hd
        go_wp2
        go_round
        case rel => exact ⟨j + 1, by omega, by go_num, HD.out⟩
        case measure => simp [intOf]; omega
    · go_wp2
      go_ret
      have e : j = len := by omega
      subst e
      rw [List.take_of_length_le (by omega)] at ht
      exact ⟨ret_bool ht.symm, Same.refl _⟩

end Go.Proofs.Ytfimpohbpccjaaa
