/-
  Both Zeros answer as many 0 as there are blocks. No condition.
-/
import Derived.Test.YtgjomldcnjjpaaaDone14
import Derived.Test.YtgjomldcnjjpaaaWalkGeoSpec
namespace Go.Proofs.Ytgjomldcnjjpaaa
open Go.RowKit

def zerosC (gn gs : Int) : List Int := List.replicate (blocksN gn gs).toNat 0
theorem zerosC_le (gn gs : Int) : (zerosC gn gs).length ≤ 32 := by
  have := blocksN_range gn gs
  unfold zerosC
  rw [List.length_replicate]
  omega

set_option maxHeartbeats 1600000 in
theorem implZeros_any (w : World) (gn gs : Int) :
    Calls Try.prog 16 #[.agg #[.int .i64 gn, .int .i64 gs]] w fun e w' => ∃ a l c, e = .returned (.slice a l c) ∧ tIntS.Own w' w.heap.size w'.heap.size [.slice a l c] (zerosC gn gs) ∧ Below w.heap.size w w' := by
  obtain ⟨i0, hi, hz0, hz1, hz2⟩ := info_parts Try.info3
  have hA := new_below w (.cells #[.int .i64 gn, .int .i64 gs] 25)
  have hbr := blocksN_range gn gs
  go_enter Try.func16, Try.ntmps16
  go_wp2_with fail
  refine (implBlocks_any _ gn gs).mono ?_
  rintro e w1 ⟨rfl, b1⟩
  have B1 := Below.andThen hA b1
  have hZ : zerosC gn gs = List.replicate (blocksN gn gs).toNat 0 := rfl
  obtain ⟨N, hN⟩ : ∃ N : Nat, blocksN gn gs = N := ⟨(blocksN gn gs).toNat, by omega⟩
  rw [hN] at hZ hbr ⊢
  have e1 : ((N : Int)).toNat = N := by omega
  rw [e1] at hZ
  have hb3 : i0.bytes * N ≤ 281474976710656 := by rw [hz2]; omega
  have hm3 : N ≤ maxLen := by unfold maxLen; omega
  have s1 := B1.size
  go_wp2_with (at_make; refine wpList_make_full _ rfl _ _ 26 rfl w1.heap.size 3 i0 (.int .i64 0) 1 Try.underlying26 hi hz0 hz1 _ _ _ _ N rfl rfl rfl rfl hb3 hm3 (Nat.le_refl _) ?_; intro w2 hown hgrow)
  go_ret
  rw [made_ints] at hown
  have ho : Owns .i64 3 w2 w1.heap.size (.slice (some ⟨w1.heap.size, 0, none⟩) N N) (List.replicate N 0) := by
    unfold Owns
    rw [List.length_replicate]
    exact hown
  have b2 : Below w1.heap.size w1 w2 := (Below.refl _ _).grown hgrow (Nat.le_refl _) (by simp)
  refine ⟨_, _, _, rfl, ?_, Below.andThen B1 b2⟩
  rw [hZ]
  exact (own_ints ho).widen s1 (Nat.le_refl _)

set_option maxHeartbeats 1600000 in
theorem specZeros_any (w : World) (gn gs : Int) :
    Calls Try.prog 18 #[.agg #[.int .i64 gn, .int .i64 gs]] w fun e w' => ∃ a l c, e = .returned (.slice a l c) ∧ tIntS.Own w' w.heap.size w'.heap.size [.slice a l c] (zerosC gn gs) ∧ Below w.heap.size w w' := by
  obtain ⟨i0, hi, hz0, hz1, hz2⟩ := info_parts Try.info3
  have hA : Below w.heap.size w ((w.alloc (.cells #[.int .i64 gn, .int .i64 gs] 25)).alloc (.cells #[] 3)) := (new_below w _).alloc (by simp) _
  have G : Box ((w.alloc (.cells #[.int .i64 gn, .int .i64 gs] 25)).alloc (.cells #[] 3)) w.heap.size 25 #[.int .i64 gn, .int .i64 gs] := (Box.new w _ _).below (new_below _ _) (by simp)
  have hO : Owns .i64 3 ((w.alloc (.cells #[.int .i64 gn, .int .i64 gs] 25)).alloc (.cells #[] 3)) (w.heap.size + 1) (.slice (some ⟨w.heap.size + 1, 0, none⟩) 0 0) [] := by
    have := Owns.lit .i64 3 (w.alloc (.cells #[.int .i64 gn, .int .i64 gs] 25)) [] 0 #[] rfl rfl (by unfold maxLen; omega)
    simpa using this
  have hbr := blocksN_range gn gs
  have hZ : zerosC gn gs = List.replicate (blocksN gn gs).toNat 0 := rfl
  obtain ⟨N, hN⟩ : ∃ N : Nat, blocksN gn gs = N := ⟨(blocksN gn gs).toNat, by omega⟩
  have e1 : ((N : Int)).toNat = N := by omega
  rw [hN, e1] at hZ
  have HN := hidden hN
  rw [hN] at hbr
  go_enter Try.func18, Try.ntmps18
  go_wp2
  go_loopw [3, 4] (fun o i wr => ∃ j : Nat, j ≤ N ∧ i = .int .i64 j ∧ Owns .i64 3 wr (w.heap.size + 1) o (List.replicate j 0) ∧ Box wr w.heap.size 25 #[.int .i64 gn, .int .i64 gs] ∧ Below w.heap.size w wr ∧ w.heap.size + 1 ≤ wr.heap.size) (fun _ i _ => N - (intOf i).toNat)
  case atStart => exact ⟨0, Nat.zero_le _, rfl, hO, G, hA, by simp⟩
  case round =>
    obtain ⟨j, hj, rfl, ho, g, hb, hs⟩ := hrel
    obtain ⟨g0, g1⟩ := g.cells2
    have zg := g.lt
    go_wp2_with fail
    refine (specBlocks_any _ gn gs).mono ?_
    rintro e w1 ⟨rfl, b1⟩
    rw [HN.out]
    have HO := hidden (ho.below b1 (Nat.le_refl _))
    have G1 := g.below b1 zg
    have B1 := Below.andThen hb b1
    have s1 := b1.size
    clear ho hb g0 g1 b1 g
    by_cases hjn : j < N
    · have b2 := new_below w1 (.cells #[.int .i64 0] 3)
      have G2 := G1.below b2 G1.lt
      have B2 := Below.andThen B1 b2
      go_wp2_with (at_builtin; refine wpList_app .i64 (by rfl) _ _ 26 (by rfl) (w.heap.size + 1) 3 i0 _ 8 Try.underlying26 hi hz0 hz1 hz2 rfl _ (List.replicate j 0) (by rfl) (HO.out.alloc _) ⟨w1.heap.size, 0, none⟩ 1 1 [0] (by rfl) rfl (Reads.new _ _ _ _ _ rfl) ?h1 ?h2 ?h3 ?_)
      case h1 => unfold maxLen; simp; omega
      case h2 => simp; omega
      case h3 => simp; omega
      intro v' w3 ho3 hb3
      rw [← List.replicate_succ'] at ho3
      have HO3 := hidden ho3
      have HB := hidden (B2.trans (hb3.mono (Nat.le_succ _)))
      have G3 := hidden (G2.below hb3 (Nat.lt_succ_self _))
      have s3 := hb3.size
      clear ho3 hb3 HO B1 B2
      go_wp2
      go_roundw
      case rel => exact ⟨j + 1, by omega, by go_num, HO3.out, G3.out, HB.out, by simp at s3; omega⟩
      case measure => simp [intOf]; omega
    · obtain rfl : j = N := by omega
      go_wp2
      obtain ⟨a, c, hv, _⟩ := HO.out.shape
      subst hv
      go_ret
      refine ⟨_, _, _, rfl, ?_, B1⟩
      rw [hZ]
      exact (own_ints HO.out).widen (Nat.le_succ _) (Nat.le_refl _)

end Go.Proofs.Ytgjomldcnjjpaaa
