/-
  The walk of the exact law of SameSec: at every two slices of int it answers true, and nothing that was there has turned. No condition.
-/
import Derived.Test.YtmkiljflkndmoaiWalkSame
namespace Go.Proofs.Ytmkiljflkndmoai
open Go.RowKit

set_option maxHeartbeats 1000000 in
theorem fnExactSameSec_walk (a0 : Option Addr) (len0 cap0 : Nat) (z0 : List Int) (a1 : Option Addr) (len1 cap1 : Nat) (z1 : List Int) (w : World) (w0 : IsRow .i64 w a0 len0 cap0 z0) (w1 : IsRow .i64 w a1 len1 cap1 z1) :
    Calls Try.prog 4 #[.slice a0 len0 cap0, .slice a1 len1 cap1] w fun e w' => e = .returned (.bool true) ∧ Below w.heap.size w w' := by
  obtain ⟨hr, hl, _, hml⟩ := w0.reads
  obtain ⟨kr, kl, _, kml⟩ := w1.reads
  generalize z0.take len0 = xs at hr hl
  generalize z1.take len1 = ys at kr kl
  unfold maxLen at hml kml
  clear w0 w1
  by_cases hbig : len0 ≤ 1048576
  · by_cases kbig : len1 ≤ 1048576
    · go_enter Try.func4, Try.ntmps4
      go_wp2_with fail
      refine (toIntS_any _ _ _ _ xs hl hr (by omega)).mono ?_
      rintro e w1 ⟨rfl, ho1, hb1⟩
      go_wp2_with fail
      refine (toIntS_any _ _ _ _ ys kl (kr.below hb1) (by omega)).mono ?_
      rintro e w2 ⟨rfl, ho2, hb2⟩
      have hB2 := Below.andThen hb1 hb2
      go_wp2_with fail
      refine (specSameSec_any _ _ _ _ _ _ _ xs ys hl kl (ho1.reads.below hb2) ho2.reads (by omega)).mono ?_
      rintro e w3 ⟨rfl, hs3⟩
      have hB3 := Below.andSame hB2 hs3
      go_wp2_with fail
      refine (toIntS_any _ _ _ _ xs hl (hr.below hB3) (by omega)).mono ?_
      rintro e w4 ⟨rfl, ho4, hb4⟩
      have hB4 := Below.andThen hB3 hb4
      go_wp2_with fail
      refine (toIntS_any _ _ _ _ ys kl (kr.below hB4) (by omega)).mono ?_
      rintro e w5 ⟨rfl, ho5, hb5⟩
      have hB5 := Below.andThen hB4 hb5
      have hx5 := ho4.reads.below hb5
      go_wp2_with fail
      refine (implSameSec_any _ _ _ _ _ _ _ xs ys hl kl hx5 ho5.reads (by omega)).mono ?_
      rintro e w6 ⟨rfl, hs6⟩
      have hB6 := Below.andSame hB5 hs6
      have hx6 := hx5.same hs6
      have hy6 := ho5.reads.same hs6
      have hq : (decide (xs = ys) != decide (xs = ys)) = false := by simp
      go_wp2_with fail
      refine (toIntS_any _ _ _ _ xs hl (hr.below hB6) (by omega)).mono ?_
      rintro e w7 ⟨rfl, ho7, hb7⟩
      have hB7 := Below.andThen hB6 hb7
      have hx7 := hx6.below hb7
      have hy7 := hy6.below hb7
      go_wp2_with fail
      refine (eqIntS_any _ _ _ _ _ _ _ xs xs hl hl hx7 ho7.reads (by omega)).mono ?_
      rintro e w8 ⟨rfl, hs8⟩
      have hB8 := Below.andSame hB7 hs8
      have hy8 := hy7.same hs8
      have hd : decide (xs = xs) = true := by simp
      go_wp2_with fail
      refine (toIntS_any _ _ _ _ ys kl (kr.below hB8) (by omega)).mono ?_
      rintro e w9 ⟨rfl, ho9, hb9⟩
      have hB9 := Below.andThen hB8 hb9
      go_wp2_with fail
      refine (eqIntS_any _ _ _ _ _ _ _ ys ys kl kl (hy8.below hb9) ho9.reads (by omega)).mono ?_
      rintro e wa ⟨rfl, hsa⟩
      have hd' : decide (ys = ys) = true := by simp
      go_wp2
      go_ret
      exact ⟨rfl, Below.andSame hB9 hsa⟩
    · go_enter Try.func4, Try.ntmps4
      go_wp2
      go_ret
      exact ⟨rfl, Below.refl _ _⟩
  · go_enter Try.func4, Try.ntmps4
    go_wp2
    go_ret
    exact ⟨rfl, Below.refl _ _⟩

end Go.Proofs.Ytmkiljflkndmoai
