/-
  The walks of both ParityWord and both MissingWord (the program's and the specification's): all together by xor, and all but the k-th. Condition: at most 2097152 elements.
-/
import Derived.Test.YtmkiljflkndmoaaWalkXor
namespace Go.Proofs.Ytmkiljflkndmoaa
open Go.RowKit

theorem implParityWord_any (w : World) (a : Option Addr) (len cap : Nat) (zs : List Int) (hz : zs.length = len) (hr : Reads .i64 w a zs) (hlen : len ≤ 2097152) :
    Calls Try.prog 23 #[.slice a len cap] w fun e w' => e = .returned (.int .i64 (xorL zs)) ∧ Same w w' := by
  go_enter Try.func23, Try.ntmps23
  go_wp2_with fail
  refine (implXorOf_any _ _ _ _ zs hz hr hlen).mono ?_
  rintro e w1 ⟨rfl, hs⟩
  go_wp2
  go_ret
  exact ⟨rfl, hs⟩

set_option maxHeartbeats 800000 in
theorem implMissingWord_any (w : World) (a : Option Addr) (len cap : Nat) (zs : List Int) (k : Int) (hz : zs.length = len) (hr : Reads .i64 w a zs) (hlen : len ≤ 2097152) :
    Calls Try.prog 24 #[.slice a len cap, .int .i64 k] w fun e w' => e = .returned (.int .i64 (skipL zs k len)) ∧ Same w w' := by
  have HS : Hid (skipL zs k len = if 0 ≤ k ∧ k < len then bits BinOp.xor IntKind.i64 (xorL zs) (zs.getD k.toNat 0) else xorL zs) := by unfold Hid; rw [← hz]; exact skip_all zs k
  go_enter Try.func24, Try.ntmps24
  go_wp2_with fail
  refine (implXorOf_any _ _ _ _ zs hz hr hlen).mono ?_
  rintro e w1 ⟨rfl, hs⟩
  by_cases h0 : 0 ≤ k
  · by_cases h1 : k < len
    · obtain ⟨k, rfl⟩ := Int.eq_ofNat_of_zero_le h0
      rcases hr.cases with h2 | ⟨b, off, rfl, hbl, hc⟩
      · omega
      have hc1 := (hs.cell ⟨b, off + k, none⟩).trans (hc k (by omega))
      have HE : Hid (skipL zs k len = bits BinOp.xor IntKind.i64 (xorL zs) (zs.getD k 0)) := by unfold Hid; rw [HS.out, if_pos ⟨h0, h1⟩, Int.toNat_natCast]
      clear hc HS
      generalize zs.getD k 0 = x at hc1 HE
      go_wp2
      go_ret
      exact ⟨ret_int HE.out.symm, hs⟩
    · have HE : Hid (skipL zs k len = xorL zs) := by unfold Hid; rw [HS.out, if_neg (by omega)]
      go_wp2
      go_ret
      exact ⟨ret_int HE.out.symm, hs⟩
  · have HE : Hid (skipL zs k len = xorL zs) := by unfold Hid; rw [HS.out, if_neg (by omega)]
    go_wp2
    go_ret
    exact ⟨ret_int HE.out.symm, hs⟩


end Go.Proofs.Ytmkiljflkndmoaa
