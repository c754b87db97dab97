/-
  A Super as words: both PutSuper (the program's and the specification's) answer the nine words in memory of their own, or none; the laws' copy and comparison of Supers. No condition.
-/
import Derived.Test.YtgjldmjlbhkgbaaWalkSuper
import Derived.Test.YtgjldmjlbhkgbaaWalkCopyWords
import Derived.Test.YtgjldmjlbhkgbaaOwnLen
namespace Go.Proofs.Ytgjldmjlbhkgbaa
open Go.RowKit

theorem nine9 {l : List Int} (h : l.length = 9) : ∃ a b c d e f g i j : Int, l = [a, b, c, d, e, f, g, i, j] := by
  match l, h with
  | [a, b, c, d, e, f, g, i, j], _ => exact ⟨a, b, c, d, e, f, g, i, j, rfl⟩

def putD (x : Sup) : List Int := if supB x = true then [21317, x.id, x.gen, x.role, x.n, x.s, x.tail, x.lost + 1, x.built] else []
theorem putD_of {x : Sup} (h : supB x = true) : putD x = [21317, x.id, x.gen, x.role, x.n, x.s, x.tail, x.lost + 1, x.built] := by unfold putD; rw [if_pos h]
theorem putD_not {x : Sup} (h : supB x = false) : putD x = [] := by unfold putD; rw [if_neg (by simp [h])]

set_option maxHeartbeats 800000 in
theorem wordsOfSuper_any (w : World) (x : Sup) (hx : supB x = true) : Calls Try.prog 77 #[.agg #[.int .i64 x.id, .int .i64 x.gen, .int .i64 x.role, .int .i64 x.n, .int .i64 x.s, .int .i64 x.tail, .int .i64 x.lost, .int .i64 x.built]] w fun e w' => e = .returned (.agg #[.int .i64 21317, .int .i64 x.id, .int .i64 x.gen, .int .i64 x.role, .int .i64 x.n, .int .i64 x.s, .int .i64 x.tail, .int .i64 (x.lost + 1), .int .i64 x.built]) ∧ Below w.heap.size w w' := by
  obtain ⟨_, hl, _⟩ := supB_iff.1 hx
  have gw : IntKind.i64.wrap (x.lost + 1) = x.lost + 1 := IntWalk.i64_in _ (by have := (supB_iff.1 hx).1; omega)
  clear hl hx
  go_enter Try.func77, Try.ntmps77
  go_wp2
  refine bodyPost_ret (v := .agg #[.int .i64 21317, .int .i64 x.id, .int .i64 x.gen, .int .i64 x.role, .int .i64 x.n, .int .i64 x.s, .int .i64 x.tail, .int .i64 (x.lost + 1), .int .i64 x.built]) (by simp [results, Try.results77, go_sem]) rfl ?_
  refine ⟨rfl, ?_⟩
  exact (new_below w _).alloc (by simp) _

set_option maxHeartbeats 1600000 in
theorem specPutSuper_any (w : World) (x : Sup) : Calls Try.prog 31 #[.agg #[.int .i64 x.id, .int .i64 x.gen, .int .i64 x.role, .int .i64 x.n, .int .i64 x.s, .int .i64 x.tail, .int .i64 x.lost, .int .i64 x.built]] w fun e w' => ∃ a l c, e = .returned (.slice a l c) ∧ tIntS.Own w' w.heap.size w'.heap.size [.slice a l c] (putD x) ∧ Below w.heap.size w w' := by
  have hA := new_below w (.cells #[.int .i64 x.id, .int .i64 x.gen, .int .i64 x.role, .int .i64 x.n, .int .i64 x.s, .int .i64 x.tail, .int .i64 x.lost, .int .i64 x.built] 62)
  have X := Box.new w 62 #[.int .i64 x.id, .int .i64 x.gen, .int .i64 x.role, .int .i64 x.n, .int .i64 x.s, .int .i64 x.tail, .int .i64 x.lost, .int .i64 x.built]
  obtain ⟨k0, k1, k2, k3, k4, k5, k6, k7⟩ := X.cells8
  have zA := X.lt
  go_enter Try.func31, Try.ntmps31
  go_wp2_with fail
  generalize w.alloc (.cells #[.int .i64 x.id, .int .i64 x.gen, .int .i64 x.role, .int .i64 x.n, .int .i64 x.s, .int .i64 x.tail, .int .i64 x.lost, .int .i64 x.built] 62) = W at hA X k0 k1 k2 k3 k4 k5 k6 k7 zA ⊢
  refine (specSuperOk_any _ _).mono ?_
  rintro e w1 ⟨rfl, b1⟩
  have X1 := X.below b1 zA
  have B1 := Below.andThen hA b1
  clear k0 k1 k2 k3 k4 k5 k6 k7 X b1 hA zA
  obtain ⟨k0, k1, k2, k3, k4, k5, k6, k7⟩ := X1.cells8
  by_cases hx : supB x = true
  · have gw : IntKind.i64.wrap (x.lost + 1) = x.lost + 1 := IntWalk.i64_in _ (by have := supB_iff.1 hx; omega)
    have HX := hidden (putD_of hx)
    go_wp2
    go_ret
    refine ⟨_, _, _, rfl, ?_, B1.alloc B1.size _⟩
    rw [HX.out]
    exact (own_ints (Owns.lit .i64 3 w1 [21317, x.id, x.gen, x.role, x.n, x.s, x.tail, x.lost + 1, x.built] 9 _ (by simp) rfl (by unfold maxLen; omega))).widen B1.size (Nat.le_refl _)
  · have hx' : supB x = false := by simpa using hx
    have HX := hidden (putD_not hx')
    go_wp2
    go_ret
    refine ⟨_, _, _, rfl, ?_, B1.alloc B1.size _⟩
    rw [HX.out]
    exact (own_ints (Owns.lit .i64 3 w1 [] 0 #[] rfl rfl (by unfold maxLen; omega))).widen B1.size (Nat.le_refl _)

set_option maxHeartbeats 1600000 in
theorem implPutSuper_any (w : World) (x : Sup) : Calls Try.prog 66 #[.agg #[.int .i64 x.id, .int .i64 x.gen, .int .i64 x.role, .int .i64 x.n, .int .i64 x.s, .int .i64 x.tail, .int .i64 x.lost, .int .i64 x.built]] w fun e w' => ∃ a l c, e = .returned (.slice a l c) ∧ tIntS.Own w' w.heap.size w'.heap.size [.slice a l c] (putD x) ∧ Below w.heap.size w w' := by
  have hA := new_below w (.cells #[.int .i64 x.id, .int .i64 x.gen, .int .i64 x.role, .int .i64 x.n, .int .i64 x.s, .int .i64 x.tail, .int .i64 x.lost, .int .i64 x.built] 62)
  have X := Box.new w 62 #[.int .i64 x.id, .int .i64 x.gen, .int .i64 x.role, .int .i64 x.n, .int .i64 x.s, .int .i64 x.tail, .int .i64 x.lost, .int .i64 x.built]
  obtain ⟨k0, k1, k2, k3, k4, k5, k6, k7⟩ := X.cells8
  have zA := X.lt
  go_enter Try.func66, Try.ntmps66
  go_wp2_with fail
  generalize w.alloc (.cells #[.int .i64 x.id, .int .i64 x.gen, .int .i64 x.role, .int .i64 x.n, .int .i64 x.s, .int .i64 x.tail, .int .i64 x.lost, .int .i64 x.built] 62) = W at hA X k0 k1 k2 k3 k4 k5 k6 k7 zA ⊢
  refine (implSuperOk_any _ _).mono ?_
  rintro e w1 ⟨rfl, b1⟩
  have X1 := X.below b1 zA
  have B1 := Below.andThen hA b1
  clear k0 k1 k2 k3 k4 k5 k6 k7 X b1 hA zA
  obtain ⟨k0, k1, k2, k3, k4, k5, k6, k7⟩ := X1.cells8
  by_cases hx : supB x = true
  · have HX := hidden (putD_of hx)
    go_wp2_with fail
    refine (wordsOfSuper_any _ _ hx).mono ?_
    rintro e w2 ⟨rfl, b2⟩
    have B2 := Below.andThen B1 b2
    clear k0 k1 k2 k3 k4 k5 k6 k7 X1 b2 B1
    have hR : tIntS.Rd (w2.alloc (.cells #[.int .i64 21317, .int .i64 x.id, .int .i64 x.gen, .int .i64 x.role, .int .i64 x.n, .int .i64 x.s, .int .i64 x.tail, .int .i64 (x.lost + 1), .int .i64 x.built] 108)) [.slice (some ⟨w2.heap.size, 0, none⟩) 9 9] [21317, x.id, x.gen, x.role, x.n, x.s, x.tail, x.lost + 1, x.built] := ints_rd_of (zs := [21317, x.id, x.gen, x.role, x.n, x.s, x.tail, x.lost + 1, x.built]) (Reads.new .i64 w2 108 _ _ (by simp)) (by simp) (by omega) (by simp)
    have B3 := B2.alloc B2.size (.cells #[.int .i64 21317, .int .i64 x.id, .int .i64 x.gen, .int .i64 x.role, .int .i64 x.n, .int .i64 x.s, .int .i64 x.tail, .int .i64 (x.lost + 1), .int .i64 x.built] 108)
    have z3 := B3.size
    go_wp2_with fail
    generalize w2.alloc (.cells #[.int .i64 21317, .int .i64 x.id, .int .i64 x.gen, .int .i64 x.role, .int .i64 x.n, .int .i64 x.s, .int .i64 x.tail, .int .i64 (x.lost + 1), .int .i64 x.built] 108) = w3 at hR B3 z3 ⊢
    refine (copyWords_any _ _ _ _ _ hR (by omega)).mono ?_
    rintro e w4 ⟨a', c', rfl, o4, b4⟩
    go_wp2
    go_ret
    refine ⟨_, _, _, rfl, ?_, Below.andThen B3 b4⟩
    rw [HX.out]
    exact o4.widen z3 (Nat.le_refl _)
  · have hx' : supB x = false := by simpa using hx
    have HX := hidden (putD_not hx')
    go_wp2
    go_ret
    refine ⟨_, _, _, rfl, ?_, B1.alloc B1.size _⟩
    rw [HX.out]
    exact (own_ints (Owns.lit .i64 3 w1 [] 0 #[] rfl rfl (by unfold maxLen; omega))).widen B1.size (Nat.le_refl _)

end Go.Proofs.Ytgjldmjlbhkgbaa
