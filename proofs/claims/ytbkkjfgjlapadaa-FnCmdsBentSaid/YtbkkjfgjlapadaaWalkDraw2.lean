/-
  The walks of the specification's draws of numbers and of what is put, for the law of sectors. Condition: at most 2097152 bytes to draw from.
-/
import Derived.Test.YtbkkjfgjlapadaaWalkDraw
import Derived.Test.YtbkkjfgjlapadaaWords
namespace Go.Proofs.Ytbkkjfgjlapadaa
open Go.RowKit

set_option maxHeartbeats 1600000 in
theorem l1Draw_any {w : World} {g lb cb : Nat} {a : Option Addr} {zs : List Int} (h : Draws w g a lb cb zs) :
    Calls Try.prog 53 #[.pointer (some ⟨g, 0, none⟩)] w fun e w' => ∃ x : Int, e = .returned (.int .i64 x) ∧ isW x = true ∧ Draws w' g a lb cb zs ∧ But g (g + 1) w w' := by
  have hg := h.lt
  go_enter Try.func53, Try.ntmps53
  go_wp2_with fail
  refine (dInt (h.alloc _) _ 8 _ [0, 1, 2, 7, 255, 256, 4660, 65535] rfl (Reads.new _ _ _ _ _ rfl) ?hx (by omega) (by omega)).mono ?_
  case hx => intro x hx; simp at hx; subst hx; exact hg
  rintro e w1 ⟨x, rfl, hx, hd1, hb1⟩
  have hw : isW x = true := by
    simp at hx
    rcases hx with rfl | rfl | rfl | rfl | rfl | rfl | rfl | rfl <;> rfl
  have hB := ((But.refl g (g + 1) w).alloc _).trans hb1
  clear hb1 hx
  go_wp2
  go_ret
  exact ⟨_, rfl, hw, hd1, hB⟩

end Go.Proofs.Ytbkkjfgjlapadaa
