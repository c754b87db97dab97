/-
  The walks of the specification's draws of numbers and of what is put, for the law of sectors. Condition: at most 2097152 bytes to draw from.
-/
import Derived.Test.YtgjomldcnjjpaaaWalkDraw
import Derived.Test.YtgjomldcnjjpaaaWords
namespace Go.Proofs.Ytgjomldcnjjpaaa
open Go.RowKit

set_option maxHeartbeats 1600000 in
theorem l1Draw_any {w : World} {g lb cb : Nat} {a : Option Addr} {zs : List Int} (h : Draws w g a lb cb zs) :
    Calls Try.prog 73 #[.pointer (some ⟨g, 0, none⟩)] w fun e w' => ∃ x : Int, e = .returned (.int .i64 x) ∧ isW x = true ∧ Draws w' g a lb cb zs ∧ But g (g + 1) w w' := by
  have hg := h.lt
  go_enter Try.func73, Try.ntmps73
  go_wp2_with fail
  refine (dInt (h.alloc _) _ 8 _ [0, 1, 2, 7, 255, 256, 4660, 65535] rfl (Reads.new _ _ _ _ _ rfl) ?hx (by omega) (by omega)).mono ?_
  case hx => intro x hx; simp at hx; subst hx; exact hg
  rintro e w1 ⟨x, rfl, hx, hd1, hb1⟩
  have hw : isW x = true := by
    simp at hx
    rcases hx with rfl | rfl | rfl | rfl | rfl | rfl | rfl | rfl <;> rfl
  have hB := ((But.refl g (g + 1) w).alloc _).trans hb1
  clear hb1 hx
  go_wp2
  go_ret
  exact ⟨_, rfl, hw, hd1, hB⟩

set_option maxHeartbeats 1600000 in
theorem l1Sec_any {w : World} {g lb cb : Nat} {a : Option Addr} {zs : List Int} (h : Draws w g a lb cb zs) :
    Calls Try.prog 72 #[.pointer (some ⟨g, 0, none⟩)] w fun e w' => ∃ (v : Value) (xs : List Int), e = .returned v ∧ xs.length ≤ 4 ∧ allW xs = true ∧ Owns .i64 3 w' w.heap.size v xs ∧ Draws w' g a lb cb zs ∧ But g (g + 1) w w' := by
  obtain ⟨i0, hi, hz0, hz1, hz2⟩ := info_parts Try.info3
  have hown0 : Owns .i64 3 (w.alloc (.cells #[] 3)) w.heap.size (.slice (some ⟨w.heap.size, 0, none⟩) 0 0) [] := Owns.lit .i64 3 w [] 0 #[] rfl rfl (by unfold maxLen; omega)
  have hg := h.lt
  go_enter Try.func72, Try.ntmps72
  go_wp2_with fail
  refine (dBelow (h.alloc _) 5 (by omega) (by omega)).mono ?_
  rintro e w1 ⟨n, rfl, hn0, hn1, hd1, hb1⟩
  have ho1 := hown0.but hb1 (by omega)
  have hB1 := ((But.refl g (g + 1) w).alloc _).trans hb1
  obtain ⟨n, rfl⟩ := Int.eq_ofNat_of_zero_le hn0
  have hn4 : n ≤ 4 := by omega
  clear hb1 hown0 hn0 hn1
  go_wp2
  go_loopw [3, 4] (fun o i wr => ∃ (j : Nat) (xs : List Int), xs.length + j ≤ 4 ∧ i = .int .i64 j ∧ allW xs = true ∧ Owns .i64 3 wr w.heap.size o xs ∧ Draws wr g a lb cb zs ∧ But g (g + 1) w wr) (fun _ i _ => (intOf i).toNat)
  case atStart => exact ⟨n, [], by simpa using hn4, rfl, rfl, ho1, hd1, hB1⟩
  case round =>
    clear ho1 hd1 hB1
    obtain ⟨j, xs, hj, rfl, hxs, ho, hd, hb⟩ := hrel
    by_cases hlt : 0 < j
    · go_wp2_with fail
      refine (l1Draw_any hd).mono ?_
      rintro e w2 ⟨x, rfl, hx, hd2, hb2⟩
      have ho2 := ho.but hb2 (by omega)
      have hB2 := hb.trans hb2
      have hsz := hB2.size
      clear hb2 ho hd hb
      go_wp2_with (at_builtin; refine wpList_app .i64 (by rfl) _ _ 26 (by rfl) w.heap.size 3 i0 _ 8 Try.underlying26 hi hz0 hz1 hz2 rfl _ xs (by rfl) (ho2.alloc _) ⟨w2.heap.size, 0, none⟩ 1 1 [x] (by rfl) rfl (Reads.new _ _ _ _ _ rfl) ?h1 ?h2 ?h3 ?_)
      case h1 => unfold maxLen; omega
      case h2 => omega
      case h3 => simp; omega
      intro v' w3 ho3 hb3
      have hl3 : (xs ++ [x]).length + (j - 1) ≤ 4 := by simp; omega
      have hxs3 : allW (xs ++ [x]) = true := by unfold allW at *; simp [hxs, hx]
      have hd3 := (hd2.alloc (.cells #[.int .i64 x] 3)).lower hb3 hg
      have hB3 := (hB2.alloc (.cells #[.int .i64 x] 3)).thenBelow hb3
      clear hb3 ho2 hd2 hB2
      go_wp2
      go_roundw
      case rel => exact ⟨j - 1, xs ++ [x], hl3, by go_num, hxs3, ho3, hd3, hB3⟩
      case measure => simp [intOf]; omega
    · go_wp2
      go_ret
      exact ⟨_, xs, rfl, by omega, hxs, ho, hd, hb⟩

set_option maxHeartbeats 1600000 in
theorem l1Any_any {w : World} {g lb cb : Nat} {a : Option Addr} {zs : List Int} (h : Draws w g a lb cb zs) :
    Calls Try.prog 59 #[.pointer (some ⟨g, 0, none⟩)] w fun e w' => ∃ (v : Value) (xs : List Int), e = .returned v ∧ xs.length ≤ 13 ∧ Owns .i64 3 w' w.heap.size v xs ∧ Draws w' g a lb cb zs ∧ But g (g + 1) w w' := by
  obtain ⟨i0, hi, hz0, hz1, hz2⟩ := info_parts Try.info3
  have hg := h.lt
  go_enter Try.func59, Try.ntmps59
  go_wp2_with fail
  refine (l1Sec_any h).mono ?_
  rintro e w1 ⟨v1, xs, rfl, hl1, _, ho1, hd1, hb1⟩
  go_wp2_with fail
  refine (dBelow hd1 10 (by omega) (by omega)).mono ?_
  rintro e w2 ⟨n, rfl, hn0, hn1, hd2, hb2⟩
  have ho2 := ho1.but hb2 (by omega)
  have hB2 := hb1.trans hb2
  have hsz := hB2.size
  clear ho1 hd1 hb1 hb2
  by_cases e0 : n = 0
  · subst e0
    go_wp2_with fail
    refine (dInt (hd2.alloc _) _ 2 _ [-1, 65536] rfl (Reads.new _ _ _ _ _ rfl) ?hx (by omega) (by omega)).mono ?_
    case hx => intro x hx; simp at hx; subst hx; exact hd2.lt
    rintro e w3 ⟨x, rfl, _, hd3, hb3⟩
    have ho3 := (ho2.alloc (.cells #[.int .i64 (-1), .int .i64 65536] 3)).but hb3 (by omega)
    have hB3 := (hB2.alloc _).trans hb3
    have hsz3 := hB3.size
    clear ho2 hd2 hB2 hb3
    go_wp2_with (at_builtin; refine wpList_app .i64 (by rfl) _ _ 26 (by rfl) w.heap.size 3 i0 _ 8 Try.underlying26 hi hz0 hz1 hz2 rfl _ xs (by rfl) (ho3.alloc _) ⟨w3.heap.size, 0, none⟩ 1 1 [x] (by rfl) rfl (Reads.new _ _ _ _ _ rfl) ?h1 ?h2 ?h3 ?_)
    case h1 => unfold maxLen; omega
    case h2 => omega
    case h3 => simp; omega
    intro v' w4 ho4 hb4
    have hl4 : (xs ++ [x]).length ≤ 13 := by simp; omega
    have hd4 := (hd3.alloc (.cells #[.int .i64 x] 3)).lower hb4 hg
    have hB4 := (hB3.alloc (.cells #[.int .i64 x] 3)).thenBelow hb4
    clear hb4 ho3 hd3 hB3
    go_wp2
    go_ret
    exact ⟨_, _, rfl, hl4, ho4, hd4, hB4⟩
  · by_cases e1 : n = 1
    · subst e1
      go_wp2_with fail
      refine (dBelow hd2 2 (by omega) (by omega)).mono ?_
      rintro e w3 ⟨m, rfl, hm0, hm1, hd3, hb3⟩
      obtain ⟨m, rfl⟩ := Int.eq_ofNat_of_zero_le hm0
      have hm : m ≤ 1 := by omega
      have hB3 := hB2.trans hb3
      have hsz3 := hB3.size
      clear ho2 hd2 hB2 hb3 hm0 hm1
      have hb3' : i0.bytes * (12 + m) ≤ 281474976710656 := by rw [hz2]; omega
      have hm3 : 12 + m ≤ maxLen := by unfold maxLen; omega
      go_wp2_with (at_make; refine wpList_make_full _ rfl _ _ 26 rfl w.heap.size 3 i0 (.int .i64 0) 1 Try.underlying26 hi hz0 hz1 _ _ _ _ (12 + m) rfl rfl (by omega) (by omega) hb3' hm3 hsz3 ?_; intro w4 hown hgrow)
      have ho4 : Owns .i64 3 w4 w.heap.size (.slice (some ⟨w3.heap.size, 0, none⟩) (12 + m) (12 + m)) (List.replicate (12 + m) 0) := by
        rw [made_ints] at hown
        unfold Owns
        rw [List.length_replicate]
        exact hown
      have hbb : Below w3.heap.size w3 w4 := (Below.refl _ _).grown hgrow (Nat.le_refl _) (by simp)
      have hl4 : (List.replicate (12 + m) (0 : Int)).length ≤ 13 := by rw [List.length_replicate]; omega
      have hd4 := hd3.lower hbb hd3.lt
      have hB4 := hB3.trans (But.of_below hbb)
      clear hbb hown hgrow hd3 hB3
      go_wp2
      go_ret
      exact ⟨_, _, rfl, hl4, ho4, hd4, hB4⟩
    · have e0' : (n == 0) = false := by simpa using e0
      have e1' : (n == 1) = false := by simpa using e1
      go_wp2
      go_ret
      exact ⟨_, _, rfl, by omega, ho2, hd2, hB2⟩


end Go.Proofs.Ytgjomldcnjjpaaa
