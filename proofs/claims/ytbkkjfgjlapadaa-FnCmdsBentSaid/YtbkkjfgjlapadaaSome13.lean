/-
  What l7Some draws: so many words. Condition: at most 64.
-/
import Derived.Test.YtbkkjfgjlapadaaWalkDraw2
import Derived.Test.YtbkkjfgjlapadaaData
namespace Go.Proofs.Ytbkkjfgjlapadaa
open Go.RowKit

set_option maxHeartbeats 1600000 in
theorem l7Some_len {w : World} {g lb cb : Nat} {a : Option Addr} {zs : List Int} (h : Draws w g a lb cb zs) (n : Nat) (hn : n ≤ 64) :
    Calls Try.prog 49 #[.pointer (some ⟨g, 0, none⟩), .int .i64 n] w fun e w' => ∃ v : Value, e = .returned v ∧ ∃ xs : List Int, xs.length = n ∧ allW xs = true ∧ Owns .i64 3 w' w.heap.size v xs ∧ Draws w' g a lb cb zs ∧ But g (g + 1) w w' := by
  obtain ⟨i0, hi, hz0, hz1, hz2⟩ := info_parts Try.info3
  have ho1 : Owns .i64 3 (w.alloc (.cells #[] 3)) w.heap.size (.slice (some ⟨w.heap.size, 0, none⟩) 0 0) [] := Owns.lit .i64 3 w [] 0 #[] rfl rfl (by unfold maxLen; omega)
  have hg := h.lt
  have hd1 := h.alloc (.cells #[] 3)
  have hB1 := (But.refl g (g + 1) w).alloc (.cells #[] 3)
  go_enter Try.func49, Try.ntmps49
  go_wp2
  go_loopw [5, 6] (fun o i wr => ∃ (j : Nat) (xs : List Int), xs.length = j ∧ j ≤ n ∧ i = .int .i64 j ∧ allW xs = true ∧ Owns .i64 3 wr w.heap.size o xs ∧ Draws wr g a lb cb zs ∧ But g (g + 1) w wr) (fun _ i _ => 65 - (intOf i).toNat)
  case atStart => exact ⟨0, [], rfl, by omega, rfl, rfl, ho1, hd1, hB1⟩
  case round =>
    clear ho1 hd1 hB1
    obtain ⟨j, xs, hj, hj2, rfl, hxs, ho, hd, hb⟩ := hrel
    by_cases hlt : j < n
    · go_wp2_with fail
      refine (l1Draw_any hd).mono ?_
      rintro e w2 ⟨x, rfl, hx, hd2, hb2⟩
      have ho2 := ho.but hb2 (by omega)
      have hB2 := hb.trans hb2
      have hsz := hB2.size
      clear hb2 ho hd hb
      go_wp2_with (at_builtin; refine wpList_app .i64 (by rfl) _ _ 26 (by rfl) w.heap.size 3 i0 _ 8 Try.underlying26 hi hz0 hz1 hz2 rfl _ xs (by rfl) (ho2.alloc _) ⟨w2.heap.size, 0, none⟩ 1 1 [x] (by rfl) rfl (Reads.new _ _ _ _ _ rfl) ?h1 ?h2 ?h3 ?_)
      case h1 => unfold maxLen; omega
      case h2 => omega
      case h3 => simp; omega
      intro v' w3 ho3 hb3
      have hl3 : (xs ++ [x]).length = j + 1 := by simp; omega
      have hxs3 : allW (xs ++ [x]) = true := by unfold allW at *; simp [hxs, hx]
      have hd3 := (hd2.alloc (.cells #[.int .i64 x] 3)).lower hb3 hg
      have hB3 := (hB2.alloc (.cells #[.int .i64 x] 3)).thenBelow hb3
      have hj1 : IntKind.i64.wrap ((j : Int) + 1) = (j : Int) + 1 := IntWalk.i64_in _ (by omega)
      clear hb3 ho2 hd2 hB2
      go_wp2
      go_roundw
      case rel => exact ⟨j + 1, xs ++ [x], hl3, by omega, by go_num, hxs3, ho3, hd3, hB3⟩
      case measure => simp [intOf]; omega
    · go_wp2
      go_ret
      exact ⟨_, rfl, xs, by omega, hxs, ho, hd, hb⟩

end Go.Proofs.Ytbkkjfgjlapadaa
