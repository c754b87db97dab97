/-
  The walk of the program's copyWords: the same numbers in memory of its own. Condition: at most 2097152.
-/
import Derived.Test.YtbkkjfgjlapadaaGreatData
namespace Go.Proofs.YtbkkjfgjlapadaaGreat
open Go.RowKit

set_option maxHeartbeats 400000 in
theorem copyWords_any (w : World) (a : Option Addr) (n cap : Nat) (zs : List Int) (h : tIntS.Rd w [.slice a n cap] zs) (hn : n ≤ 2097152) :
    Calls Tryz.prog 125 #[.slice a n cap] w fun e w' => ∃ a' c', e = .returned (.slice a' n c') ∧ tIntS.Own w' w.heap.size w'.heap.size [.slice a' n c'] zs ∧ Below w.heap.size w w' := by
  obtain ⟨i0, hi, hz0, hz1, hz2⟩ := info_parts Tryz.info3
  obtain ⟨hr, hl, _, _⟩ := ints_rd h
  have hA : Below w.heap.size w (w.alloc (.cells #[] 3)) := (Below.refl _ _).alloc (Nat.le_refl _) _
  have hO : Owns .i64 3 (w.alloc (.cells #[] 3)) w.heap.size (.slice (some ⟨w.heap.size, 0, none⟩) 0 0) [] := Owns.lit .i64 3 w [] 0 #[] rfl rfl (by unfold maxLen; omega)
  match a, h, hr with
  | none, h, _ =>
    obtain ⟨rfl, rfl, rfl⟩ := row_nil h
    go_enter Tryz.func125, Tryz.ntmps125
    go_wp2_with (at_builtin; refine wpList_append_own_none rfl _ _ 36 rfl w.heap.size 3 i0 1 Tryz.underlying36 hi _ 0 [] rfl hO rfl ?_)
    go_ret
    exact ⟨_, _, rfl, own_ints hO, hA⟩
  | some ad, _, hr =>
    have hr1 := hr.below hA
    go_enter Tryz.func125, Tryz.ntmps125
    go_wp2_with (at_builtin; refine wpList_app .i64 rfl _ _ 36 rfl w.heap.size 3 i0 (.int .i64 0) 8 Tryz.underlying36 hi hz0 hz1 hz2 rfl _ [] rfl hO ad n cap zs rfl hl hr1 (by unfold maxLen; simp; omega) (by simp; omega) (by simp) ?_; intro v' w1 ho1 hb1; obtain ⟨a1, c1, hv1, _⟩ := ho1.shape; rw [List.nil_append, hl] at hv1; rw [List.nil_append] at ho1; subst hv1)
    go_ret
    exact ⟨_, _, rfl, own_ints ho1, hA.trans hb1⟩

end Go.Proofs.YtbkkjfgjlapadaaGreat
