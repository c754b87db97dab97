/-
  The walk of the exact law of XorOf: at every slice of int it answers true, and nothing that was there has turned. No condition.
-/
import Derived.Test.YtmkiljflkndmoajWalkXor
import Derived.Test.YtmkiljflkndmoajWalkInts
namespace Go.Proofs.Ytmkiljflkndmoaj
open Go.RowKit

set_option maxHeartbeats 1000000 in
theorem fnExactXorOf_walk (a0 : Option Addr) (len0 cap0 : Nat) (z0 : List Int) (w : World) (w0 : IsRow .i64 w a0 len0 cap0 z0) :
    Calls Try.prog 5 #[.slice a0 len0 cap0] w fun e w' => e = .returned (.bool true) ∧ Below w.heap.size w w' := by
  obtain ⟨hr, hl, _, hml⟩ := w0.reads
  generalize z0.take len0 = zs at hr hl
  unfold maxLen at hml
  clear w0
  by_cases hbig : len0 ≤ 1048576
  · go_enter Try.func5, Try.ntmps5
    go_wp2_with fail
    refine (toIntS_any _ _ _ _ zs hl hr (by omega)).mono ?_
    rintro e w1 ⟨rfl, ho1, hb1⟩
    go_wp2_with fail
    refine (specXorOf_any _ _ _ _ zs hl ho1.reads (by omega)).mono ?_
    rintro e w2 ⟨rfl, hs2⟩
    have hB2 := Below.andSame hb1 hs2
    go_wp2_with fail
    refine (toIntS_any _ _ _ _ zs hl (hr.below hB2) (by omega)).mono ?_
    rintro e w3 ⟨rfl, ho3, hb3⟩
    have hB3 := Below.andThen hB2 hb3
    go_wp2_with fail
    refine (implXorOf_any _ _ _ _ zs hl ho3.reads (by omega)).mono ?_
    rintro e w4 ⟨rfl, hs4⟩
    have hB4 := Below.andSame hB3 hs4
    have hq : (xorL zs == xorL zs) = true := by simp
    go_wp2_with fail
    refine (toIntS_any _ _ _ _ zs hl (hr.below hB4) (by omega)).mono ?_
    rintro e w5 ⟨rfl, ho5, hb5⟩
    have hB5 := Below.andThen hB4 hb5
    have hr5 := (ho3.reads.same hs4).below hb5
    go_wp2_with fail
    refine (eqIntS_any _ _ _ _ _ _ _ zs zs hl hl hr5 ho5.reads (by omega)).mono ?_
    rintro e w6 ⟨rfl, hs6⟩
    have hd : decide (zs = zs) = true := by simp
    go_wp2
    go_ret
    exact ⟨rfl, Below.andSame hB5 hs6⟩
  · go_enter Try.func5, Try.ntmps5
    go_wp2
    go_ret
    exact ⟨rfl, Below.refl _ _⟩

end Go.Proofs.Ytmkiljflkndmoaj
