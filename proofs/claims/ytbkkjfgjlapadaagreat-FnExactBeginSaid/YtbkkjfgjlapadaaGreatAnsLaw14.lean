/-
  The laws' helpers over one answer: whether two are the same, its marks. Conditions: at most 2097152 words, marks between 0 and 16777216.
-/
import Derived.Test.YtbkkjfgjlapadaaGreatWalkEq
import Derived.Test.YtbkkjfgjlapadaaGreatWalkMark
import Derived.Test.YtbkkjfgjlapadaaGreatBox
namespace Go.Proofs.YtbkkjfgjlapadaaGreat
open Go.RowKit

set_option maxHeartbeats 1600000 in
theorem eqAns_same (w : World) (d c : Int) (a a' : Option Addr) (la ca cb : Nat) (zs : List Int) (h : tIntS.Rd w [.slice a la ca] zs) (h' : tIntS.Rd w [.slice a' la cb] zs) (hla : la ≤ 2097152) :
    Calls Tryz.prog 177 #[.agg #[.int .i64 d, .int .i64 c, .slice a la ca], .agg #[.int .i64 d, .int .i64 c, .slice a' la cb]] w fun e w' => e = .returned (.bool true) ∧ Below w.heap.size w w' := by
  have hA : Below w.heap.size w ((w.alloc (.cells #[.int .i64 d, .int .i64 c, .slice a la ca] 55)).alloc (.cells #[.int .i64 d, .int .i64 c, .slice a' la cb] 55)) := ((Below.refl _ _).alloc (Nat.le_refl _) _).alloc (by simp) _
  obtain ⟨r1, hl, _, _⟩ := ints_rd (h.below hA)
  obtain ⟨r2, _, _, _⟩ := ints_rd (h'.below hA)
  have hd : decide (zs = zs) = true := by simp
  go_enter Tryz.func177, Tryz.ntmps177
  go_wp2_with fail
  refine (eqIntS_any _ _ _ _ _ _ _ zs zs hl hl r1 r2 hla).mono ?_
  rintro e w1 ⟨rfl, hs1⟩
  go_wp2
  go_ret
  exact ⟨rfl, Below.andSame hA hs1⟩

end Go.Proofs.YtbkkjfgjlapadaaGreat
