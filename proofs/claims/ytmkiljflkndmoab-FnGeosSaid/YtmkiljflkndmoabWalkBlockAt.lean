/-
  The walks of the program's StripeOf, IndexOf and BlockAt. No condition.
-/
import Derived.Test.YtmkiljflkndmoabWalkBlocks
namespace Go.Proofs.Ytmkiljflkndmoab
open Go.RowKit

theorem place_stripe (a b : Int) (w : World) : Sem.run Try.prog (Instr.field 45 (.agg #[.int .i64 a, .int .i64 b]) 0) w = .ok (.int .i64 a) w := rfl
theorem place_index (a b : Int) (w : World) : Sem.run Try.prog (Instr.field 45 (.agg #[.int .i64 a, .int .i64 b]) 1) w = .ok (.int .i64 b) w := rfl

set_option maxHeartbeats 800000 in
theorem implStripeOf_any (w : World) (n s b : Int) : Calls Try.prog 10 #[.agg #[.int .i64 n, .int .i64 s], .int .i64 b] w fun e w' => e = .returned (.int .i64 (stripeN n s b)) ∧ Below w.heap.size w w' := by
  have hA := new_below w (.cells #[.int .i64 n, .int .i64 s] 25)
  obtain ⟨k0, k1⟩ := (Gbox.new w 25 n s).cells
  go_enter Try.func10, Try.ntmps10
  go_wp2_with fail
  refine (placeOf_any _ _ _ _).mono ?_
  rintro e w1 ⟨rfl, b1⟩
  have hf := place_stripe (stripeN n s b) (indexN n s b) w1
  go_wp2
  go_ret
  exact ⟨rfl, Below.andThen hA b1⟩

set_option maxHeartbeats 800000 in
theorem implIndexOf_any (w : World) (n s b : Int) : Calls Try.prog 11 #[.agg #[.int .i64 n, .int .i64 s], .int .i64 b] w fun e w' => e = .returned (.int .i64 (indexN n s b)) ∧ Below w.heap.size w w' := by
  have hA := new_below w (.cells #[.int .i64 n, .int .i64 s] 25)
  obtain ⟨k0, k1⟩ := (Gbox.new w 25 n s).cells
  go_enter Try.func11, Try.ntmps11
  go_wp2_with fail
  refine (placeOf_any _ _ _ _).mono ?_
  rintro e w1 ⟨rfl, b1⟩
  have hf := place_index (stripeN n s b) (indexN n s b) w1
  go_wp2
  go_ret
  exact ⟨rfl, Below.andThen hA b1⟩

/-- The block at a spot is the one of that stripe and index. -/
theorem spot_block {n s t i : Int} : spotB n s t i = true ↔ ∃ b, blockB n s b = true ∧ stripeN n s b = t ∧ indexN n s b = i := by
  constructor
  · intro h
    unfold spotB at h
    rw [Bool.and_eq_true, stripeB_of, inB_iff] at h
    obtain ⟨⟨hg, h1, h2⟩, h3, h4⟩ := h
    obtain ⟨g1, g2, g3, g4⟩ := geoB_iff.1 hg
    have hb : blockB n s (t * (n - 1) + i) = true := by
      rw [blockB_of, blocksN_of hg]
      have : n = 3 ∨ n = 4 ∨ n = 5 := by omega
      rcases this with rfl | rfl | rfl <;> omega
    refine ⟨t * (n - 1) + i, hb, ?_, ?_⟩
    · unfold stripeN
      rw [if_pos hb]
      have : n = 3 ∨ n = 4 ∨ n = 5 := by omega
      rcases this with rfl | rfl | rfl <;> omega
    · unfold indexN
      rw [if_pos hb]
      have : n = 3 ∨ n = 4 ∨ n = 5 := by omega
      rcases this with rfl | rfl | rfl <;> omega
  · rintro ⟨b, hb, rfl, rfl⟩
    have hg := blockB_geo hb
    have hb' := blockB_of.1 hb
    rw [blocksN_of hg] at hb'
    obtain ⟨g1, g2, g3, g4⟩ := geoB_iff.1 hg
    unfold spotB
    rw [Bool.and_eq_true, stripeB_of, inB_iff]
    unfold stripeN indexN
    rw [if_pos hb, if_pos hb]
    have : n = 3 ∨ n = 4 ∨ n = 5 := by omega
    rcases this with rfl | rfl | rfl <;> exact ⟨⟨hg, by omega⟩, by omega⟩

theorem block_at {n s b : Int} (hb : blockB n s b = true) : blockN n s (stripeN n s b) (indexN n s b) = b := by
  have h := spot_block.2 ⟨b, hb, rfl, rfl⟩
  unfold blockN
  rw [if_pos h]
  obtain ⟨g1, g2, g3, g4⟩ := geoB_iff.1 (blockB_geo hb)
  have hb' := blockB_of.1 hb
  unfold stripeN indexN
  rw [if_pos hb, if_pos hb]
  have : n = 3 ∨ n = 4 ∨ n = 5 := by omega
  rcases this with rfl | rfl | rfl <;> omega

set_option maxHeartbeats 1600000 in
theorem implBlockAt_any (w : World) (n s t i : Int) : Calls Try.prog 7 #[.agg #[.int .i64 n, .int .i64 s], .int .i64 t, .int .i64 i] w fun e w' => e = .returned (.int .i64 (blockN n s t i)) ∧ Below w.heap.size w w' := by
  have hA : Below w.heap.size w ((w.alloc (.cells #[.int .i64 n, .int .i64 s] 25)).alloc (.cells #[.int .i64 t, .int .i64 i] 45)) := (new_below w _).alloc (by simp) _
  have X : Gbox ((w.alloc (.cells #[.int .i64 n, .int .i64 s] 25)).alloc (.cells #[.int .i64 t, .int .i64 i] 45)) w.heap.size 25 n s := (Gbox.new w 25 n s).below (new_below _ _) (by simp)
  have Y : Gbox ((w.alloc (.cells #[.int .i64 n, .int .i64 s] 25)).alloc (.cells #[.int .i64 t, .int .i64 i] 45)) (w.heap.size + 1) 45 t i := by
    have := Gbox.new (w.alloc (.cells #[.int .i64 n, .int .i64 s] 25)) 45 t i
    simpa using this
  obtain ⟨k0, k1⟩ := X.cells
  obtain ⟨x0, x1⟩ := (Gbox.new w 25 n s).cells
  go_enter Try.func7, Try.ntmps7
  go_wp2_with fail
  refine (implBlocks_any _ _ _).mono ?_
  rintro e w1 ⟨rfl, b1⟩
  have hz : w.heap.size + 1 < ((w.alloc (.cells #[.int .i64 n, .int .i64 s] 25)).alloc (.cells #[.int .i64 t, .int .i64 i] 45)).heap.size := by simp
  have X1 := X.below b1 (by omega)
  have Y1 := Y.below b1 hz
  have B1 := hA.trans (b1.mono hA.size)
  have hr := blocksN_range n s
  obtain ⟨nb, hnb⟩ := Int.eq_ofNat_of_zero_le hr.1
  have HNB := hidden hnb
  rw [hnb] at hr ⊢
  clear k0 k1 x0 x1 X Y hA b1 hz hnb
  go_wp2_with fail
  go_loopw [14] (fun c wr => ∃ j : Nat, j ≤ nb ∧ c = .int .i64 j ∧ (∀ k : Nat, k < j → ¬ (stripeN n s k = t ∧ indexN n s k = i)) ∧ Gbox wr w.heap.size 25 n s ∧ Gbox wr (w.heap.size + 1) 45 t i ∧ Below w.heap.size w wr) (fun c _ => nb - (intOf c).toNat)
  case atStart => exact ⟨0, Nat.zero_le _, rfl, by omega, X1, Y1, B1⟩
  case round =>
    obtain ⟨j, hj, rfl, hk, X2, Y2, B2⟩ := hrel
    have HK := hidden hk
    clear hk X1 Y1 B1
    by_cases hlt : j < nb
    · have hb : blockB n s j = true := blockB_of.2 ⟨by omega, by rw [HNB.out]; omega⟩
      have HBA := hidden (block_at hb)
      obtain ⟨k0, k1⟩ := X2.cells
      obtain ⟨j0, j1⟩ := Y2.cells
      generalize hS : stripeN n s j = S at HBA HK
      generalize hI : indexN n s j = I at HBA HK
      have HP : ∀ W : World, Calls Try.prog 31 #[.agg #[.int .i64 n, .int .i64 s], .int .i64 (j : Int)] W fun e w' => e = .returned (.agg #[.int .i64 S, .int .i64 I]) ∧ Below W.heap.size W w' := by
        intro W
        rw [← hS, ← hI]
        exact placeOf_any _ _ _ _
      have HS := hidden hS
      have HI := hidden hI
      clear hS hI
      by_cases h1 : S = t
      · by_cases h2 : I = i
        · subst h1 h2
          go_wp2_with fail
          go_region_held3 (fun w' => w'.cell? ⟨w.heap.size, 0, none⟩ = some (.int .i64 n) ∧ w'.cell? ⟨w.heap.size, 1, none⟩ = some (.int .i64 s) ∧ w'.cell? ⟨w.heap.size + 1, 0, none⟩ = some (.int .i64 S) ∧ w'.cell? ⟨w.heap.size + 1, 1, none⟩ = some (.int .i64 I))
            (first | (exact ⟨X3.cells.1, X3.cells.2, Y3.cells.1, Y3.cells.2⟩) | (exact ⟨k0, k1, j0, j1⟩) | go_keep)
            (first
              | (go_at_call 31; refine (HP _).mono ?_; rintro e w3 ⟨rfl, b3⟩; have B3 := Below.andThen B2.drew b3; have X3 := X2.drew.below b3 X2.lt; have Y3 := Y2.drew.below b3 Y2.lt))
          go_wp2
          go_ret
          exact ⟨ret_int HBA.out.symm, B3⟩
        · have n2 : (I == i) = false := by simpa using h2
          subst h1
          go_wp2_with fail
          go_region_held3 (fun w' => w'.cell? ⟨w.heap.size, 0, none⟩ = some (.int .i64 n) ∧ w'.cell? ⟨w.heap.size, 1, none⟩ = some (.int .i64 s) ∧ w'.cell? ⟨w.heap.size + 1, 0, none⟩ = some (.int .i64 S) ∧ w'.cell? ⟨w.heap.size + 1, 1, none⟩ = some (.int .i64 i))
            (first | (exact ⟨X3.cells.1, X3.cells.2, Y3.cells.1, Y3.cells.2⟩) | (exact ⟨k0, k1, j0, j1⟩) | go_keep)
            (first
              | (go_at_call 31; refine (HP _).mono ?_; rintro e w3 ⟨rfl, b3⟩; have B3 := Below.andThen B2.drew b3; have X3 := X2.drew.below b3 X2.lt; have Y3 := Y2.drew.below b3 Y2.lt))
          go_wp2
          go_roundw
          case rel => exact ⟨j + 1, by omega, by go_num, fun k hk h => by
            by_cases hkj : k < j
            · exact HK.out k hkj h
            · have : k = j := by omega
              subst this
              exact h2 (HI.out ▸ h.2), X3, Y3, B3⟩
          case measure => simp [intOf]; omega
      · have n1 : (S == t) = false := by simpa using h1
        go_wp2_with fail
        go_region_held3 (fun w' => w'.cell? ⟨w.heap.size, 0, none⟩ = some (.int .i64 n) ∧ w'.cell? ⟨w.heap.size, 1, none⟩ = some (.int .i64 s) ∧ w'.cell? ⟨w.heap.size + 1, 0, none⟩ = some (.int .i64 t) ∧ w'.cell? ⟨w.heap.size + 1, 1, none⟩ = some (.int .i64 i))
          (first | (exact ⟨X3.cells.1, X3.cells.2, Y3.cells.1, Y3.cells.2⟩) | (exact ⟨k0, k1, j0, j1⟩) | go_keep)
          (first
            | (go_at_call 31; refine (HP _).mono ?_; rintro e w3 ⟨rfl, b3⟩; have B3 := Below.andThen B2.drew b3; have X3 := X2.drew.below b3 X2.lt; have Y3 := Y2.drew.below b3 Y2.lt))
        go_wp2
        go_roundw
        case rel => exact ⟨j + 1, by omega, by go_num, fun k hk h => by
          by_cases hkj : k < j
          · exact HK.out k hkj h
          · have : k = j := by omega
            subst this
            exact h1 (HS.out ▸ h.1), X3, Y3, B3⟩
        case measure => simp [intOf]; omega
    · go_wp2
      go_ret
      have e : j = nb := by omega
      subst e
      refine ⟨ret_int ?_, B2⟩
      unfold blockN
      rw [if_neg]
      intro h
      obtain ⟨b, hb, h1, h2⟩ := spot_block.1 h
      obtain ⟨hb0, hb1⟩ := blockB_of.1 hb
      obtain ⟨b, rfl⟩ := Int.eq_ofNat_of_zero_le hb0
      rw [HNB.out] at hb1
      exact HK.out b (by omega) ⟨h1, h2⟩

end Go.Proofs.Ytmkiljflkndmoab
