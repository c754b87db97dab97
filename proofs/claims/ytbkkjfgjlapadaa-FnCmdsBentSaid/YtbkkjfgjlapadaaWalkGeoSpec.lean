/-
  The walks of the specification's Blocks, ParityOf, DiskOf, StripeOf, IndexOf and BlockAt. No condition.
-/
import Derived.Test.YtbkkjfgjlapadaaWalkGeo
namespace Go.Proofs.Ytbkkjfgjlapadaa
open Go.RowKit

theorem sStripe_of {n s t : Int} : stripeB n s t = true ↔ geoB n s = true ∧ 0 ≤ t ∧ t ≤ s - 1 := by unfold stripeB; rw [Bool.and_eq_true, inB_iff]

set_option maxHeartbeats 800000 in
theorem specBlocks_any (w : World) (n s : Int) : Calls Try.prog 26 #[.agg #[.int .i64 n, .int .i64 s]] w fun e w' => e = .returned (.int .i64 (blocksN n s)) ∧ Below w.heap.size w w' := by
  have hA := new_below w (.cells #[.int .i64 n, .int .i64 s] 25)
  have X := Gbox.new w 25 n s
  obtain ⟨k0, k1⟩ := X.cells
  have zA := X.lt
  go_enter Try.func26, Try.ntmps26
  go_wp2_with fail
  refine (specGeoOk_any _ _ _).mono ?_
  rintro e w1 ⟨rfl, b1⟩
  have X1 := X.below b1 zA
  obtain ⟨p0, p1⟩ := X1.cells
  have B1 := Below.andThen hA b1
  clear k0 k1 X b1 hA zA
  by_cases hg : geoB n s = true
  · obtain ⟨h1, h2, h3, h4⟩ := geoB_iff.1 hg
    have hm := geoB_blocks hg
    have HB := hidden (blocksN_of hg)
    have gw : IntKind.i64.wrap (s * (n - 1)) = s * (n - 1) := IntWalk.i64_in _ (by omega)
    go_wp2
    go_ret
    exact ⟨ret_int HB.out.symm, B1⟩
  · have hg : geoB n s = false := by simpa using hg
    go_wp2
    go_ret
    exact ⟨ret_int (blocksN_not hg).symm, B1⟩

theorem blockB_geo' {n s b : Int} (h : blockB n s b = true) : geoB n s = true ∧ 0 ≤ b ∧ b < blocksN n s := by
  unfold blockB at h
  rw [inB_iff] at h
  by_cases hg : geoB n s = true
  · exact ⟨hg, by omega, by omega⟩
  · rw [blocksN_not (by simpa using hg)] at h
    omega

set_option maxHeartbeats 1600000 in
theorem specStripeOf_any (w : World) (n s b : Int) : Calls Try.prog 36 #[.agg #[.int .i64 n, .int .i64 s], .int .i64 b] w fun e w' => e = .returned (.int .i64 (stripeN n s b)) ∧ Below w.heap.size w w' := by
  have hA := new_below w (.cells #[.int .i64 n, .int .i64 s] 25)
  have X := Gbox.new w 25 n s
  obtain ⟨k0, k1⟩ := X.cells
  have zA := X.lt
  have hr := blocksN_range n s
  have HR : Hid (inB b 0 (blocksN n s - 1) = blockB n s b) := rfl
  go_enter Try.func36, Try.ntmps36
  go_wp2_with fail
  refine (specBlocks_any _ _ _).mono ?_
  rintro e w1 ⟨rfl, b1⟩
  have X1 := X.below b1 zA
  have B1 := Below.andThen hA b1
  clear k0 k1 X b1 hA zA
  obtain ⟨k0, k1⟩ := X1.cells
  go_wp2_with fail
  refine (l1In_any _ _ _ _).mono ?_
  rintro e w2 ⟨rfl, rfl⟩
  rw [HR.out]
  by_cases hb : blockB n s b = true
  · obtain ⟨hg, h0, h1⟩ := blockB_geo' hb
    obtain ⟨g1, g2, g3, g4⟩ := geoB_iff.1 hg
    have HS : Hid (stripeN n s b = b / (n - 1)) := by unfold Hid stripeN; rw [if_pos hb]
    have d1 : 0 ≤ b / (n - 1) := Int.ediv_nonneg (by omega) (by omega)
    have d2 : b / (n - 1) ≤ b := Int.ediv_le_self _ (by omega)
    have e1 : ¬ n - 1 = 0 := by omega
    have e2 : IntKind.i64.wrap (b.tdiv (n - 1)) = b / (n - 1) := by rw [Int.tdiv_eq_ediv_of_nonneg h0]; exact IntWalk.i64_in _ (by omega)
    go_wp2
    go_ret
    exact ⟨ret_int HS.out.symm, B1⟩
  · have hb' : blockB n s b = false := by simpa using hb
    go_wp2
    go_ret
    exact ⟨ret_int (by unfold stripeN; rw [if_neg hb]), B1⟩


end Go.Proofs.Ytbkkjfgjlapadaa
