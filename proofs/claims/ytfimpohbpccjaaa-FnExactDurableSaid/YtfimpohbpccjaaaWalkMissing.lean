/-
  The walks of both ParityWord and both MissingWord (the program's and the specification's): all together by xor, and all but the k-th. Condition: at most 2097152 elements.
-/
import Derived.Test.YtfimpohbpccjaaaWalkXor
namespace Go.Proofs.Ytfimpohbpccjaaa
open Go.RowKit


set_option maxHeartbeats 800000 in
theorem implMissingWord_any (w : World) (a : Option Addr) (len cap : Nat) (zs : List Int) (k : Int) (hz : zs.length = len) (hr : Reads .i64 w a zs) (hlen : len ≤ 2097152) :
    Calls Try.prog 42 #[.slice a len cap, .int .i64 k] w fun e w' => e = .returned (.int .i64 (skipL zs k len)) ∧ Same w w' := by
  have HS : Hid (skipL zs k len = if 0 ≤ k ∧ k < len then bits BinOp.xor IntKind.i64 (xorL zs) (zs.getD k.toNat 0) else xorL zs) := by unfold Hid; rw [← hz]; exact skip_all zs k
  go_enter Try.func42, Try.ntmps42
  go_wp2_with fail
  refine (implXorOf_any _ _ _ _ zs hz hr hlen).mono ?_
  rintro e w1 ⟨rfl, hs⟩
  by_cases h0 : 0 ≤ k
  · by_cases h1 : k < len
    · obtain ⟨k, rfl⟩ := Int.eq_ofNat_of_zero_le h0
      rcases hr.cases with h2 | ⟨b, off, rfl, hbl, hc⟩
      · omega
      have hc1 := (hs.cell ⟨b, off + k, none⟩).trans (hc k (by omega))
      have HE : Hid (skipL zs k len = bits BinOp.xor IntKind.i64 (xorL zs) (zs.getD k 0)) := by unfold Hid; rw [HS.out, if_pos ⟨h0, h1⟩, Int.toNat_natCast]
      clear hc HS
      generalize zs.getD k 0 = x at hc1 HE
      go_wp2
      go_ret
      exact ⟨ret_int HE.out.symm, hs⟩
    · have HE : Hid (skipL zs k len = xorL zs) := by unfold Hid; rw [HS.out, if_neg (by omega)]
      go_wp2
      go_ret
      exact ⟨ret_int HE.out.symm, hs⟩
  · have HE : Hid (skipL zs k len = xorL zs) := by unfold Hid; rw [HS.out, if_neg (by omega)]
    go_wp2
    go_ret
    exact ⟨ret_int HE.out.symm, hs⟩

set_option maxHeartbeats 800000 in
theorem specMissingWord_any (w : World) (a : Option Addr) (len cap : Nat) (zs : List Int) (k : Int) (hz : zs.length = len) (hr : Reads .i64 w a zs) (hlen : len ≤ 2097152) :
    Calls Try.prog 61 #[.slice a len cap, .int .i64 k] w fun e w' => e = .returned (.int .i64 (skipL zs k len)) ∧ Same w w' := by
  go_enter Try.func61, Try.ntmps61
  go_wp2
  go_loop [5, 6] (fun n i => ∃ j : Nat, j ≤ len ∧ i = .int .i64 j ∧ n = .int .i64 (skipL zs k j)) (fun _ i => len - (intOf i).toNat)
  case atStart => exact ⟨0, Nat.zero_le _, rfl, rfl⟩
  case round =>
    obtain ⟨j, hj, rfl, rfl⟩ := hrel
    by_cases hlt : j < len
    · have hs := skipL_succ zs k j
      by_cases hk : (j : Int) = k
      · have hkb : ((j : Int) == k) = true := by simpa using hk
        have HX : Hid (skipL zs k (j + 1) = skipL zs k j) := by unfold Hid; rw [hs, if_pos hk]
        clear hs
        go_wp2
        go_round
        case rel => exact ⟨j + 1, by omega, by go_num, by rw [HX.out]⟩
        case measure => simp [intOf]; omega
      · have hkb : ((j : Int) == k) = false := by simpa using hk
        have HX : Hid (skipL zs k (j + 1) = bits BinOp.xor IntKind.i64 (skipL zs k j) (zs.getD j 0)) := by unfold Hid; rw [hs, if_neg hk]
        clear hs
        rcases hr.cases with h0 | ⟨b, off, rfl, hbl, hc⟩
        · omega
        have hc1 := hc j (by omega)
        generalize zs.getD j 0 = x at hc1 HX
        clear hc
        go_wp2
        go_round
        case rel => exact ⟨j + 1, by omega, by go_num, by rw [HX.out]⟩
        case measure => simp [intOf]; omega
    · go_wp2
      go_ret
      have e : j = len := by omega
      subst e
      exact ⟨rfl, Same.refl _⟩

end Go.Proofs.Ytfimpohbpccjaaa
