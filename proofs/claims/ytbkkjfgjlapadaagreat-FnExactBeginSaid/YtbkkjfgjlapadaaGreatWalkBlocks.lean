/-
  The walks of both Blocks and of what tells a stripe (the program's and the specification's). No condition.
-/
import Derived.Test.YtbkkjfgjlapadaaGreatWalkGeo
namespace Go.Proofs.YtbkkjfgjlapadaaGreat
open Go.RowKit

theorem perStripe_any (w : World) (n s : Int) (h1 : 3 ≤ n) (h2 : n ≤ 5) : Calls Tryz.prog 201 #[.agg #[.int .i64 n, .int .i64 s]] w fun e w' => e = .returned (.int .i64 (n - 1)) ∧ Below w.heap.size w w' := by
  have hA := new_below w (.cells #[.int .i64 n, .int .i64 s] 25)
  obtain ⟨k0, k1⟩ := (Gbox.new w 25 n s).cells
  go_enter Tryz.func201, Tryz.ntmps201
  go_wp2
  go_ret
  exact ⟨ret_int (by first | rfl | omega), hA⟩

set_option maxHeartbeats 800000 in
theorem implBlocks_any (w : World) (n s : Int) : Calls Tryz.prog 252 #[.agg #[.int .i64 n, .int .i64 s]] w fun e w' => e = .returned (.int .i64 (blocksN n s)) ∧ Below w.heap.size w w' := by
  have hA := new_below w (.cells #[.int .i64 n, .int .i64 s] 25)
  have X := Gbox.new w 25 n s
  obtain ⟨k0, k1⟩ := X.cells
  have zA := X.lt
  go_enter Tryz.func252, Tryz.ntmps252
  go_wp2_with fail
  refine (implGeoOk_any _ _ _).mono ?_
  rintro e w1 ⟨rfl, b1⟩
  have X1 := X.below b1 zA
  have z1 := X1.lt
  obtain ⟨p0, p1⟩ := X1.cells
  have B1 := Below.andThen hA b1
  clear k0 k1 X b1 hA zA
  by_cases hg : geoB n s = true
  · obtain ⟨h1, h2, h3, h4⟩ := geoB_iff.1 hg
    have hm := geoB_blocks hg
    have HB := hidden (blocksN_of hg)
    have gw : IntKind.i64.wrap (s * (n - 1)) = s * (n - 1) := IntWalk.i64_in _ (by omega)
    go_wp2_with fail
    go_region_held3 (fun w' => w'.cell? ⟨w.heap.size, 0, none⟩ = some (.int .i64 n) ∧ w'.cell? ⟨w.heap.size, 1, none⟩ = some (.int .i64 s))
      (first | (exact ⟨(b2.cell (p := ⟨w.heap.size, 0, none⟩) z1).trans p0, (b2.cell (p := ⟨w.heap.size, 1, none⟩) z1).trans p1⟩) | (exact ⟨p0, p1⟩) | go_keep)
      (first
        | (go_at_call 201; refine (perStripe_any _ _ _ h1 h2).mono ?_; rintro e w2 ⟨rfl, b2'⟩; have b2 : Below w1.heap.size w1 w2 := (by exact (Below.refl w1.heap.size w1).drew.trans b2')))
    go_wp2
    go_ret
    exact ⟨ret_int (by rw [HB.out]), Below.andThen B1 b2⟩
  · have hg : geoB n s = false := by simpa using hg
    go_wp2
    go_ret
    exact ⟨ret_int (blocksN_not hg).symm, B1⟩

theorem stripeB_of {n s t : Int} : stripeB n s t = true ↔ geoB n s = true ∧ 0 ≤ t ∧ t < s := by unfold stripeB; rw [Bool.and_eq_true, inB_iff]; constructor <;> (rintro ⟨a, b⟩; exact ⟨a, by omega⟩)
theorem stripeB_not {n s t : Int} : stripeB n s t = false ↔ ¬ (geoB n s = true ∧ 0 ≤ t ∧ t < s) := by rw [← stripeB_of]; simp

set_option maxHeartbeats 800000 in
theorem hasStripe_any (w : World) (n s t : Int) : Calls Tryz.prog 200 #[.agg #[.int .i64 n, .int .i64 s], .int .i64 t] w fun e w' => e = .returned (.bool (stripeB n s t)) ∧ Below w.heap.size w w' := by
  have hA := new_below w (.cells #[.int .i64 n, .int .i64 s] 25)
  have X := Gbox.new w 25 n s
  obtain ⟨k0, k1⟩ := X.cells
  have zA := X.lt
  go_enter Tryz.func200, Tryz.ntmps200
  go_wp2_with fail
  refine (implGeoOk_any _ _ _).mono ?_
  rintro e w1 ⟨rfl, b1⟩
  have X1 := X.below b1 zA
  obtain ⟨p0, p1⟩ := X1.cells
  have B1 := Below.andThen hA b1
  clear k0 k1 X b1 hA zA
  by_cases hg : geoB n s = true
  · by_cases h1 : 0 ≤ t
    · by_cases h2 : t < s
      · go_wp2
        go_ret
        exact ⟨ret_bool (by symm; rw [stripeB_of]; exact ⟨hg, h1, h2⟩), B1⟩
      · go_wp2
        go_ret
        exact ⟨ret_bool (by first | (exact (stripeB_not.2 (by omega)).symm) | (rw [stripeB_not.2 (by omega)]; simp; omega)), B1⟩
    · go_wp2
      go_ret
      exact ⟨ret_bool (by first | (exact (stripeB_not.2 (by omega)).symm) | (rw [stripeB_not.2 (by omega)]; simp; omega)), B1⟩
  · have hg : geoB n s = false := by simpa using hg
    go_wp2
    go_ret
    exact ⟨ret_bool (by symm; rw [stripeB_not]; simp [hg]), B1⟩

set_option maxHeartbeats 800000 in
theorem implParityOf_any (w : World) (n s t : Int) : Calls Tryz.prog 348 #[.agg #[.int .i64 n, .int .i64 s], .int .i64 t] w fun e w' => e = .returned (.int .i64 (parN n s t)) ∧ Below w.heap.size w w' := by
  have hA := new_below w (.cells #[.int .i64 n, .int .i64 s] 25)
  have X := Gbox.new w 25 n s
  obtain ⟨k0, k1⟩ := X.cells
  have zA := X.lt
  go_enter Tryz.func348, Tryz.ntmps348
  go_wp2_with fail
  refine (hasStripe_any _ _ _ _).mono ?_
  rintro e w1 ⟨rfl, b1⟩
  have X1 := X.below b1 zA
  obtain ⟨p0, p1⟩ := X1.cells
  have B1 := Below.andThen hA b1
  clear k0 k1 X b1 hA zA
  by_cases hg : stripeB n s t = true
  · obtain ⟨hg1, h1, h2⟩ := stripeB_of.1 hg
    obtain ⟨g1, g2, g3, g4⟩ := geoB_iff.1 hg1
    have hm1 : 0 ≤ t % n := Int.emod_nonneg _ (by omega)
    have hm2 : t % n < n := Int.emod_lt_of_pos _ (by omega)
    have HB : Hid (parN n s t = n - 1 - t % n) := by unfold Hid parN; rw [if_pos hg]
    go_wp2_with fail
    go_quiet (fail)
    go_wp2
    go_ret
    exact ⟨ret_int (by rw [HB.out]), Below.andSame B1 ((Same.refl _).drewN _)⟩
  · have hg' : stripeB n s t = false := by simpa using hg
    go_wp2
    go_ret
    exact ⟨ret_int (by unfold parN; rw [if_neg hg]), B1⟩

theorem blockB_of {n s b : Int} : blockB n s b = true ↔ 0 ≤ b ∧ b < blocksN n s := by unfold blockB; rw [inB_iff]; omega
theorem blockB_not {n s b : Int} : blockB n s b = false ↔ ¬ (0 ≤ b ∧ b < blocksN n s) := by rw [← blockB_of]; simp
theorem blockB_geo {n s b : Int} (h : blockB n s b = true) : geoB n s = true := by
  rw [blockB_of] at h
  by_cases hg : geoB n s = true
  · exact hg
  · rw [blocksN_not (by simpa using hg)] at h
    omega

set_option maxHeartbeats 1600000 in
theorem placeOf_any (w : World) (n s b : Int) : Calls Tryz.prog 260 #[.agg #[.int .i64 n, .int .i64 s], .int .i64 b] w fun e w' => e = .returned (.agg #[.int .i64 (stripeN n s b), .int .i64 (indexN n s b)]) ∧ Below w.heap.size w w' := by
  have hA : Below w.heap.size w ((w.alloc (.cells #[.int .i64 n, .int .i64 s] 25)).alloc (.cells #[.int .i64 0, .int .i64 0] 245)) := (new_below w _).alloc (by simp) _
  have X : Gbox ((w.alloc (.cells #[.int .i64 n, .int .i64 s] 25)).alloc (.cells #[.int .i64 0, .int .i64 0] 245)) w.heap.size 25 n s := (Gbox.new w 25 n s).below (new_below _ _) (by simp)
  have Y : Gbox ((w.alloc (.cells #[.int .i64 n, .int .i64 s] 25)).alloc (.cells #[.int .i64 0, .int .i64 0] 245)) (w.heap.size + 1) 245 0 0 := by
    have := Gbox.new (w.alloc (.cells #[.int .i64 n, .int .i64 s] 25)) 245 0 0
    simpa using this
  obtain ⟨k0, k1⟩ := X.cells
  obtain ⟨j0, j1⟩ := Y.cells
  have f0 := Y.frozen 0
  have f1 := Y.frozen 1
  go_enter Tryz.func260, Tryz.ntmps260
  by_cases h0 : 0 ≤ b
  · go_wp2_with fail
    refine (implBlocks_any _ _ _).mono ?_
    rintro e w1 ⟨rfl, b1⟩
    have hz : w.heap.size + 1 < ((w.alloc (.cells #[.int .i64 n, .int .i64 s] 25)).alloc (.cells #[.int .i64 0, .int .i64 0] 245)).heap.size := by simp
    have X1 := X.below b1 (by omega)
    have Y1 := Y.below b1 hz
    have B1 := hA.trans (b1.mono hA.size)
    have hr := blocksN_range n s
    clear k0 k1 j0 j1 f0 f1 X Y hA b1 hz
    obtain ⟨k0, k1⟩ := X1.cells
    obtain ⟨j0, j1⟩ := Y1.cells
    have f0 := Y1.frozen 0
    have f1 := Y1.frozen 1
    have z1 := Y1.lt
    by_cases h1 : b < blocksN n s
    · have hb := blockB_of.2 ⟨h0, h1⟩
      obtain ⟨g1, g2, g3, g4⟩ := geoB_iff.1 (blockB_geo hb)
      have HS : Hid (stripeN n s b = b / (n - 1)) := by unfold Hid stripeN; rw [if_pos hb]
      have HI : Hid (indexN n s b = b % (n - 1)) := by unfold Hid indexN; rw [if_pos hb]
      have d1 : 0 ≤ b / (n - 1) := Int.ediv_nonneg (by omega) (by omega)
      have d2 : b / (n - 1) ≤ b := Int.ediv_le_self _ (by omega)
      have d3 : 0 ≤ b % (n - 1) := Int.emod_nonneg _ (by omega)
      have d4 : b % (n - 1) < n - 1 := Int.emod_lt_of_pos _ (by omega)
      have e1 : ¬ n - 1 = 0 := by omega
      have e3 : b.tmod (n - 1) = b % (n - 1) := Int.tmod_eq_emod_of_nonneg h0
      have e2 : IntKind.i64.wrap (b.tdiv (n - 1)) = b / (n - 1) := by rw [Int.tdiv_eq_ediv_of_nonneg h0]; exact IntWalk.i64_in _ (by omega)
      go_wp2_with fail
      go_region_held3 (fun w' => w'.cell? ⟨w.heap.size, 0, none⟩ = some (.int .i64 n) ∧ w'.cell? ⟨w.heap.size, 1, none⟩ = some (.int .i64 s))
        (first | (exact X3.cells) | (exact X2.cells) | (exact X1.cells) | go_keep)
        (first
          | (go_at_call 201; refine (perStripe_any _ _ _ g1 g2).mono ?_; rintro e w3 ⟨rfl, b3⟩; have B3 := Below.andThen B2 b3; have X3 := X2.below b3 X2.lt; have Y3 := Y2.below b3 Y2.lt; obtain ⟨k0, k1⟩ := X3.cells; obtain ⟨j0, j1⟩ := Y3.cells; have f0 := Y3.frozen 0; have f1 := Y3.frozen 1)
          | (go_at_call 201; refine (perStripe_any _ _ _ g1 g2).mono ?_; rintro e w2 ⟨rfl, b2⟩; have B2 := Below.andThen B1.drew b2; have X2 := X1.drew.below b2 X1.lt; have Y2 := Y1.drew.below b2 Y1.lt; obtain ⟨k0, k1⟩ := X2.cells))
      have Z := Y3.set2 (b / (n - 1)) (b % (n - 1))
      have BZ := (B3.setCell (p := ⟨w.heap.size + 1, 0, none⟩) (by simp) (.int .i64 (b / (n - 1)))).setCell (p := ⟨w.heap.size + 1, 1, none⟩) (by simp) (.int .i64 (b % (n - 1)))
      generalize ((w3.setCell ⟨w.heap.size + 1, 0, none⟩ (.int .i64 (b / (n - 1)))).setCell ⟨w.heap.size + 1, 1, none⟩ (.int .i64 (b % (n - 1)))) = w4 at Z BZ ⊢
      obtain ⟨q0, q1⟩ := Z.cells
      go_wp2
      refine bodyPost_ret (v := .agg #[.int .i64 (b / (n - 1)), .int .i64 (b % (n - 1))]) (by simp [results, Tryz.results260, go_sem, q0, q1]) rfl ?_
      exact ⟨by rw [HS.out, HI.out], BZ⟩
    · have HN : blockB n s b = false := blockB_not.2 (fun h => h1 h.2)
      have Z := Y1.set2 (-1) (-1)
      have BZ := (B1.setCell (p := ⟨w.heap.size + 1, 0, none⟩) (by simp) (.int .i64 (-1))).setCell (p := ⟨w.heap.size + 1, 1, none⟩) (by simp) (.int .i64 (-1))
      obtain ⟨q0, q1⟩ := Z.cells
      go_wp2
      refine bodyPost_ret (v := .agg #[.int .i64 (-1), .int .i64 (-1)]) (by simp [results, Tryz.results260, go_sem, q0, q1]) rfl ?_
      exact ⟨by unfold stripeN indexN; rw [HN]; rfl, BZ⟩
  · have HN : blockB n s b = false := blockB_not.2 (fun h => h0 h.1)
    clear j0 j1 k0 k1 f0 f1
    go_wp2
    refine bodyPost_ret (v := .agg #[.int .i64 (-1), .int .i64 (-1)]) (by simp [results, Tryz.results260, go_sem]) rfl ?_
    exact ⟨by unfold stripeN indexN; rw [HN]; rfl, (new_below w _).alloc (by simp) _⟩

end Go.Proofs.YtbkkjfgjlapadaaGreat
