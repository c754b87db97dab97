/-
  The walks of the specification's Blocks, ParityOf, DiskOf, StripeOf, IndexOf and BlockAt. No condition.
-/
import Derived.Test.YtgjldmjlbhkgbaaGreatWalkGeo
namespace Go.Proofs.YtgjldmjlbhkgbaaGreat
open Go.RowKit

theorem sStripe_of {n s t : Int} : stripeB n s t = true ↔ geoB n s = true ∧ 0 ≤ t ∧ t ≤ s - 1 := by unfold stripeB; rw [Bool.and_eq_true, inB_iff]

set_option maxHeartbeats 800000 in
theorem specBlocks_any (w : World) (n s : Int) : Calls Tryz.prog 165 #[.agg #[.int .i64 n, .int .i64 s]] w fun e w' => e = .returned (.int .i64 (blocksN n s)) ∧ Below w.heap.size w w' := by
  have hA := new_below w (.cells #[.int .i64 n, .int .i64 s] 25)
  have X := Gbox.new w 25 n s
  obtain ⟨k0, k1⟩ := X.cells
  have zA := X.lt
  go_enter Tryz.func165, Tryz.ntmps165
  go_wp2_with fail
  refine (specGeoOk_any _ _ _).mono ?_
  rintro e w1 ⟨rfl, b1⟩
  have X1 := X.below b1 zA
  obtain ⟨p0, p1⟩ := X1.cells
  have B1 := Below.andThen hA b1
  clear k0 k1 X b1 hA zA
  by_cases hg : geoB n s = true
  · obtain ⟨h1, h2, h3, h4⟩ := geoB_iff.1 hg
    have hm := geoB_blocks hg
    have HB := hidden (blocksN_of hg)
    have gw : IntKind.i64.wrap (s * (n - 1)) = s * (n - 1) := IntWalk.i64_in _ (by omega)
    go_wp2
    go_ret
    exact ⟨ret_int HB.out.symm, B1⟩
  · have hg : geoB n s = false := by simpa using hg
    go_wp2
    go_ret
    exact ⟨ret_int (blocksN_not hg).symm, B1⟩

set_option maxHeartbeats 800000 in
theorem l3Stripe_any (w : World) (n s t : Int) : Calls Tryz.prog 280 #[.agg #[.int .i64 n, .int .i64 s], .int .i64 t] w fun e w' => e = .returned (.bool (stripeB n s t)) ∧ Below w.heap.size w w' := by
  have hA := new_below w (.cells #[.int .i64 n, .int .i64 s] 25)
  have X := Gbox.new w 25 n s
  obtain ⟨k0, k1⟩ := X.cells
  have zA := X.lt
  go_enter Tryz.func280, Tryz.ntmps280
  go_wp2_with fail
  refine (specGeoOk_any _ _ _).mono ?_
  rintro e w1 ⟨rfl, b1⟩
  have X1 := X.below b1 zA
  obtain ⟨p0, p1⟩ := X1.cells
  have B1 := Below.andThen hA b1
  clear k0 k1 X b1 hA zA
  by_cases hg : geoB n s = true
  · obtain ⟨h1, h2, h3, h4⟩ := geoB_iff.1 hg
    go_wp2_with fail
    refine (l1In_any _ _ _ _).mono ?_
    rintro e w2 ⟨rfl, rfl⟩
    go_wp2
    go_ret
    exact ⟨ret_bool (by unfold stripeB; rw [hg]; rfl), B1⟩
  · have hg : geoB n s = false := by simpa using hg
    go_wp2
    go_ret
    exact ⟨ret_bool (by unfold stripeB; rw [hg]; rfl), B1⟩

set_option maxHeartbeats 800000 in
theorem specParityOf_any (w : World) (n s t : Int) : Calls Tryz.prog 278 #[.agg #[.int .i64 n, .int .i64 s], .int .i64 t] w fun e w' => e = .returned (.int .i64 (parN n s t)) ∧ Below w.heap.size w w' := by
  have hA := new_below w (.cells #[.int .i64 n, .int .i64 s] 25)
  have X := Gbox.new w 25 n s
  obtain ⟨k0, k1⟩ := X.cells
  have zA := X.lt
  go_enter Tryz.func278, Tryz.ntmps278
  go_wp2_with fail
  refine (l3Stripe_any _ _ _ _).mono ?_
  rintro e w1 ⟨rfl, b1⟩
  have X1 := X.below b1 zA
  obtain ⟨p0, p1⟩ := X1.cells
  have B1 := Below.andThen hA b1
  clear k0 k1 X b1 hA zA
  by_cases hg : stripeB n s t = true
  · obtain ⟨hg1, h1, h2⟩ := sStripe_of.1 hg
    obtain ⟨g1, g2, g3, g4⟩ := geoB_iff.1 hg1
    have hm1 : 0 ≤ t % n := Int.emod_nonneg _ (by omega)
    have hm2 : t % n < n := Int.emod_lt_of_pos _ (by omega)
    have HB : Hid (parN n s t = n - 1 - t % n) := by unfold Hid parN; rw [if_pos hg]
    go_wp2_with fail
    go_quiet (fail)
    go_wp2
    go_ret
    exact ⟨ret_int (by rw [HB.out]), Below.andSame B1 ((Same.refl _).drewN _)⟩
  · have hg' : stripeB n s t = false := by simpa using hg
    go_wp2
    go_ret
    exact ⟨ret_int (by unfold parN; rw [if_neg hg]), B1⟩

set_option maxHeartbeats 1600000 in
theorem specDiskOf_any (w : World) (n s t i : Int) : Calls Tryz.prog 275 #[.agg #[.int .i64 n, .int .i64 s], .int .i64 t, .int .i64 i] w fun e w' => e = .returned (.int .i64 (diskN n s t i)) ∧ Below w.heap.size w w' := by
  have hA := new_below w (.cells #[.int .i64 n, .int .i64 s] 25)
  have X := Gbox.new w 25 n s
  obtain ⟨k0, k1⟩ := X.cells
  have zA := X.lt
  go_enter Tryz.func275, Tryz.ntmps275
  go_wp2_with fail
  refine (l3Stripe_any _ _ _ _).mono ?_
  rintro e w1 ⟨rfl, b1⟩
  have X1 := X.below b1 zA
  have B1 := Below.andThen hA b1
  clear k0 k1 X b1 hA zA
  obtain ⟨k0, k1⟩ := X1.cells
  by_cases hs : stripeB n s t = true
  · obtain ⟨hg, h1, h2⟩ := sStripe_of.1 hs
    obtain ⟨g1, g2, g3, g4⟩ := geoB_iff.1 hg
    go_wp2_with fail
    refine (l1In_any _ _ _ _).mono ?_
    rintro e w2 ⟨rfl, rfl⟩
    by_cases hi : inB i 0 (n - 2) = true
    · obtain ⟨h3, h4⟩ := inB_iff.1 hi
      have hm1 : 0 ≤ t % n := Int.emod_nonneg _ (by omega)
      have hm2 : t % n < n := Int.emod_lt_of_pos _ (by omega)
      have HP : parN n s t = n - 1 - t % n := by unfold parN; rw [if_pos hs]
      have HPar : ∀ W : World, Calls Tryz.prog 278 #[.agg #[.int .i64 n, .int .i64 s], .int .i64 t] W fun e w' => e = .returned (.int .i64 (n - 1 - t % n)) ∧ Below W.heap.size W w' := by
        intro W
        rw [← HP]
        exact specParityOf_any _ _ _ _
      have HD : Hid (diskN n s t i = (n - 1 - t % n + 1 + i) % n) := by unfold Hid diskN spotB; rw [hs, hi]; rfl
      clear HP
      generalize t % n = r at hm1 hm2 HPar HD
      have e1 : ¬ n = 0 := by omega
      have e2 : (n - 1 - r + 1 + i).tmod n = (n - 1 - r + 1 + i) % n := Int.tmod_eq_emod_of_nonneg (by omega)
      have e3 : IntKind.i64.wrap (n - 1 - r + 1) = n - 1 - r + 1 := IntWalk.i64_in _ (by omega)
      have e4 : IntKind.i64.wrap (n - 1 - r + 1 + i) = n - 1 - r + 1 + i := IntWalk.i64_in _ (by omega)
      go_wp2_with fail
      go_region_held3 (fun w' => w'.cell? ⟨w.heap.size, 0, none⟩ = some (.int .i64 n) ∧ w'.cell? ⟨w.heap.size, 1, none⟩ = some (.int .i64 s))
        (first | (exact X2.cells) | (exact X1.cells) | go_keep)
        (first
          | (go_at_call 278; refine (HPar _).mono ?_; rintro e w2 ⟨rfl, b2⟩; have B2 := Below.andThen B1.drew b2; have X2 := X1.drew.below b2 X1.lt))
      go_wp2
      go_ret
      exact ⟨ret_int HD.out.symm, B2⟩
    · have hi' : inB i 0 (n - 2) = false := by simpa using hi
      go_wp2
      go_ret
      exact ⟨ret_int (by unfold diskN spotB; rw [hs, hi']; rfl), B1⟩
  · have hs' : stripeB n s t = false := by simpa using hs
    go_wp2
    go_ret
    exact ⟨ret_int (by unfold diskN spotB; rw [hs']; rfl), B1⟩


theorem blockB_geo' {n s b : Int} (h : blockB n s b = true) : geoB n s = true ∧ 0 ≤ b ∧ b < blocksN n s := by
  unfold blockB at h
  rw [inB_iff] at h
  by_cases hg : geoB n s = true
  · exact ⟨hg, by omega, by omega⟩
  · rw [blocksN_not (by simpa using hg)] at h
    omega

set_option maxHeartbeats 1600000 in
theorem specStripeOf_any (w : World) (n s b : Int) : Calls Tryz.prog 248 #[.agg #[.int .i64 n, .int .i64 s], .int .i64 b] w fun e w' => e = .returned (.int .i64 (stripeN n s b)) ∧ Below w.heap.size w w' := by
  have hA := new_below w (.cells #[.int .i64 n, .int .i64 s] 25)
  have X := Gbox.new w 25 n s
  obtain ⟨k0, k1⟩ := X.cells
  have zA := X.lt
  have hr := blocksN_range n s
  have HR : Hid (inB b 0 (blocksN n s - 1) = blockB n s b) := rfl
  go_enter Tryz.func248, Tryz.ntmps248
  go_wp2_with fail
  refine (specBlocks_any _ _ _).mono ?_
  rintro e w1 ⟨rfl, b1⟩
  have X1 := X.below b1 zA
  have B1 := Below.andThen hA b1
  clear k0 k1 X b1 hA zA
  obtain ⟨k0, k1⟩ := X1.cells
  go_wp2_with fail
  refine (l1In_any _ _ _ _).mono ?_
  rintro e w2 ⟨rfl, rfl⟩
  rw [HR.out]
  by_cases hb : blockB n s b = true
  · obtain ⟨hg, h0, h1⟩ := blockB_geo' hb
    obtain ⟨g1, g2, g3, g4⟩ := geoB_iff.1 hg
    have HS : Hid (stripeN n s b = b / (n - 1)) := by unfold Hid stripeN; rw [if_pos hb]
    have d1 : 0 ≤ b / (n - 1) := Int.ediv_nonneg (by omega) (by omega)
    have d2 : b / (n - 1) ≤ b := Int.ediv_le_self _ (by omega)
    have e1 : ¬ n - 1 = 0 := by omega
    have e2 : IntKind.i64.wrap (b.tdiv (n - 1)) = b / (n - 1) := by rw [Int.tdiv_eq_ediv_of_nonneg h0]; exact IntWalk.i64_in _ (by omega)
    go_wp2
    go_ret
    exact ⟨ret_int HS.out.symm, B1⟩
  · have hb' : blockB n s b = false := by simpa using hb
    go_wp2
    go_ret
    exact ⟨ret_int (by unfold stripeN; rw [if_neg hb]), B1⟩

set_option maxHeartbeats 1600000 in
theorem specIndexOf_any (w : World) (n s b : Int) : Calls Tryz.prog 257 #[.agg #[.int .i64 n, .int .i64 s], .int .i64 b] w fun e w' => e = .returned (.int .i64 (indexN n s b)) ∧ Below w.heap.size w w' := by
  have hA := new_below w (.cells #[.int .i64 n, .int .i64 s] 25)
  have X := Gbox.new w 25 n s
  obtain ⟨k0, k1⟩ := X.cells
  have zA := X.lt
  have hr := blocksN_range n s
  have HR : Hid (inB b 0 (blocksN n s - 1) = blockB n s b) := rfl
  go_enter Tryz.func257, Tryz.ntmps257
  go_wp2_with fail
  refine (specBlocks_any _ _ _).mono ?_
  rintro e w1 ⟨rfl, b1⟩
  have X1 := X.below b1 zA
  have B1 := Below.andThen hA b1
  clear k0 k1 X b1 hA zA
  obtain ⟨k0, k1⟩ := X1.cells
  go_wp2_with fail
  refine (l1In_any _ _ _ _).mono ?_
  rintro e w2 ⟨rfl, rfl⟩
  rw [HR.out]
  by_cases hb : blockB n s b = true
  · obtain ⟨hg, h0, h1⟩ := blockB_geo' hb
    obtain ⟨g1, g2, g3, g4⟩ := geoB_iff.1 hg
    have HS : Hid (indexN n s b = b % (n - 1)) := by unfold Hid indexN; rw [if_pos hb]
    have e1 : ¬ n - 1 = 0 := by omega
    have e3 : b.tmod (n - 1) = b % (n - 1) := Int.tmod_eq_emod_of_nonneg h0
    go_wp2
    go_ret
    exact ⟨ret_int HS.out.symm, B1⟩
  · have hb' : blockB n s b = false := by simpa using hb
    go_wp2
    go_ret
    exact ⟨ret_int (by unfold indexN; rw [if_neg hb]), B1⟩

end Go.Proofs.YtgjldmjlbhkgbaaGreat
