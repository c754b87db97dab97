/-
  The walks of the program's StripeOf, IndexOf and BlockAt. No condition.
-/
import Derived.Test.YtbkkjfgjlapadaaWalkBlocks
namespace Go.Proofs.Ytbkkjfgjlapadaa
open Go.RowKit

set_option maxRecDepth 20000 in
theorem place_stripe (a b : Int) (w : World) : Sem.run Try.prog (Instr.field 67 (.agg #[.int .i64 a, .int .i64 b]) 0) w = .ok (.int .i64 a) w := rfl
set_option maxRecDepth 20000 in
theorem place_index (a b : Int) (w : World) : Sem.run Try.prog (Instr.field 67 (.agg #[.int .i64 a, .int .i64 b]) 1) w = .ok (.int .i64 b) w := rfl

set_option maxRecDepth 20000 in
set_option maxHeartbeats 800000 in
theorem implStripeOf_any (w : World) (n s b : Int) : Calls Try.prog 52 #[.agg #[.int .i64 n, .int .i64 s], .int .i64 b] w fun e w' => e = .returned (.int .i64 (stripeN n s b)) ∧ Below w.heap.size w w' := by
  have hA := new_below w (.cells #[.int .i64 n, .int .i64 s] 25)
  obtain ⟨k0, k1⟩ := (Gbox.new w 25 n s).cells
  go_enter Try.func52, Try.ntmps52
  go_wp2_with fail
  refine (placeOf_any _ _ _ _).mono ?_
  rintro e w1 ⟨rfl, b1⟩
  have hf := place_stripe (stripeN n s b) (indexN n s b) w1
  go_wp2
  go_ret
  exact ⟨rfl, Below.andThen hA b1⟩

set_option maxRecDepth 20000 in
/-- The block at a spot is the one of that stripe and index. -/
theorem spot_block {n s t i : Int} : spotB n s t i = true ↔ ∃ b, blockB n s b = true ∧ stripeN n s b = t ∧ indexN n s b = i := by
  constructor
  · intro h
    unfold spotB at h
    rw [Bool.and_eq_true, stripeB_of, inB_iff] at h
    obtain ⟨⟨hg, h1, h2⟩, h3, h4⟩ := h
    obtain ⟨g1, g2, g3, g4⟩ := geoB_iff.1 hg
    have hb : blockB n s (t * (n - 1) + i) = true := by
      rw [blockB_of, blocksN_of hg]
      have : n = 3 ∨ n = 4 ∨ n = 5 := by omega
      rcases this with rfl | rfl | rfl <;> omega
    refine ⟨t * (n - 1) + i, hb, ?_, ?_⟩
    · unfold stripeN
      rw [if_pos hb]
      have : n = 3 ∨ n = 4 ∨ n = 5 := by omega
      rcases this with rfl | rfl | rfl <;> omega
    · unfold indexN
      rw [if_pos hb]
      have : n = 3 ∨ n = 4 ∨ n = 5 := by omega
      rcases this with rfl | rfl | rfl <;> omega
  · rintro ⟨b, hb, rfl, rfl⟩
    have hg := blockB_geo hb
    have hb' := blockB_of.1 hb
    rw [blocksN_of hg] at hb'
    obtain ⟨g1, g2, g3, g4⟩ := geoB_iff.1 hg
    unfold spotB
    rw [Bool.and_eq_true, stripeB_of, inB_iff]
    unfold stripeN indexN
    rw [if_pos hb, if_pos hb]
    have : n = 3 ∨ n = 4 ∨ n = 5 := by omega
    rcases this with rfl | rfl | rfl <;> exact ⟨⟨hg, by omega⟩, by omega⟩

set_option maxRecDepth 20000 in
theorem block_at {n s b : Int} (hb : blockB n s b = true) : blockN n s (stripeN n s b) (indexN n s b) = b := by
  have h := spot_block.2 ⟨b, hb, rfl, rfl⟩
  unfold blockN
  rw [if_pos h]
  obtain ⟨g1, g2, g3, g4⟩ := geoB_iff.1 (blockB_geo hb)
  have hb' := blockB_of.1 hb
  unfold stripeN indexN
  rw [if_pos hb, if_pos hb]
  have : n = 3 ∨ n = 4 ∨ n = 5 := by omega
  rcases this with rfl | rfl | rfl <;> omega

end Go.Proofs.Ytbkkjfgjlapadaa
