/-
  The walk of the exact law of GetSuper: at every slice of int it answers true, and nothing that was there has turned. No condition.
-/
import Derived.Test.YtljkjbfkekihjaaWalkGetSuper
namespace Go.Proofs.Ytljkjbfkekihjaa
open Go.RowKit

set_option maxHeartbeats 2000000 in
theorem fnExactGetSuper_walk (a0 : Option Addr) (len0 cap0 : Nat) (z0 : List Int) (w : World) (w0 : IsRow .i64 w a0 len0 cap0 z0) :
    Calls Try.prog 7 #[.slice a0 len0 cap0] w fun e w' => e = .returned (.bool true) ∧ Below w.heap.size w w' := by
  obtain ⟨hr, hl, _, hml⟩ := w0.reads
  generalize z0.take len0 = zs at hr hl
  unfold maxLen at hml
  clear w0
  by_cases hbig : len0 ≤ 1048576
  · have hd : decide (zs = zs) = true := by simp
    have hq : (getB zs != getB zs) = false := by simp
    have hq' : (getB zs == getB zs) = true := by simp
    go_enter Try.func7, Try.ntmps7
    go_wp2_with fail
    refine (toIntS_any _ _ _ _ zs hl hr (by omega)).mono ?_
    rintro e w1 ⟨rfl, ho1, hb1⟩
    go_wp2_with fail
    refine (specGetSuper_any _ _ _ _ zs ho1.reads hl (by omega)).mono ?_
    rintro e w2 ⟨rfl, hb2⟩
    have B2 := Below.andThen hb1 hb2
    clear ho1 hb1 hb2
    have B3 := B2.alloc B2.size (.cells #[.int .i64 (getD zs).id, .int .i64 (getD zs).gen, .int .i64 (getD zs).role, .int .i64 (getD zs).n, .int .i64 (getD zs).s, .int .i64 (getD zs).tail, .int .i64 (getD zs).lost, .int .i64 (getD zs).built] 25)
    have X3 := Box.new w2 25 #[.int .i64 (getD zs).id, .int .i64 (getD zs).gen, .int .i64 (getD zs).role, .int .i64 (getD zs).n, .int .i64 (getD zs).s, .int .i64 (getD zs).tail, .int .i64 (getD zs).lost, .int .i64 (getD zs).built]
    go_wp2_with fail
    generalize w2.alloc (.cells #[.int .i64 (getD zs).id, .int .i64 (getD zs).gen, .int .i64 (getD zs).role, .int .i64 (getD zs).n, .int .i64 (getD zs).s, .int .i64 (getD zs).tail, .int .i64 (getD zs).lost, .int .i64 (getD zs).built] 25) = w3 at B3 X3 ⊢
    refine (toIntS_any _ _ _ _ zs hl (hr.below B3) (by omega)).mono ?_
    rintro e w4 ⟨rfl, o4, b4⟩
    have B4 := Below.andThen B3 b4
    have X4 := X3.below b4 X3.lt
    clear B2 B3 X3 b4
    go_wp2_with fail
    refine (implGetSuper_any _ _ _ _ zs o4.reads hl (by omega)).mono ?_
    rintro e w5 ⟨rfl, b5⟩
    have B5 := Below.andThen B4 b5
    have X5 := X4.below b5 X4.lt
    have o5 := o4.reads.below b5
    clear B4 X4 b5
    have B6 := B5.alloc B5.size (.cells #[.int .i64 (getD zs).id, .int .i64 (getD zs).gen, .int .i64 (getD zs).role, .int .i64 (getD zs).n, .int .i64 (getD zs).s, .int .i64 (getD zs).tail, .int .i64 (getD zs).lost, .int .i64 (getD zs).built] 25)
    have Y6 := Box.new w5 25 #[.int .i64 (getD zs).id, .int .i64 (getD zs).gen, .int .i64 (getD zs).role, .int .i64 (getD zs).n, .int .i64 (getD zs).s, .int .i64 (getD zs).tail, .int .i64 (getD zs).lost, .int .i64 (getD zs).built]
    have X6 := X5.alloc (.cells #[.int .i64 (getD zs).id, .int .i64 (getD zs).gen, .int .i64 (getD zs).role, .int .i64 (getD zs).n, .int .i64 (getD zs).s, .int .i64 (getD zs).tail, .int .i64 (getD zs).lost, .int .i64 (getD zs).built] 25)
    have o6 := o5.below (new_below w5 (.cells #[.int .i64 (getD zs).id, .int .i64 (getD zs).gen, .int .i64 (getD zs).role, .int .i64 (getD zs).n, .int .i64 (getD zs).s, .int .i64 (getD zs).tail, .int .i64 (getD zs).lost, .int .i64 (getD zs).built] 25))
    clear B5 X5 o5
    obtain ⟨x0, x1, x2, x3, x4, x5, x6, x7⟩ := X6.cells8
    obtain ⟨y0, y1, y2, y3, y4, y5, y6, y7⟩ := Y6.cells8
    go_wp2_with fail
    generalize w5.alloc (.cells #[.int .i64 (getD zs).id, .int .i64 (getD zs).gen, .int .i64 (getD zs).role, .int .i64 (getD zs).n, .int .i64 (getD zs).s, .int .i64 (getD zs).tail, .int .i64 (getD zs).lost, .int .i64 (getD zs).built] 25) = w6 at B6 o6 X6 Y6 x0 x1 x2 x3 x4 x5 x6 x7 y0 y1 y2 y3 y4 y5 y6 y7 ⊢
    refine (eqSuper_refl _ (getD zs)).mono ?_
    rintro e w7 ⟨rfl, b7⟩
    have B7 := Below.andThen B6 b7
    have o7 := o6.below b7
    clear x0 x1 x2 x3 x4 x5 x6 x7 y0 y1 y2 y3 y4 y5 y6 y7 X6 Y6 B6 o6 b7
    go_wp2_with fail
    refine (toIntS_any _ _ _ _ zs hl (hr.below B7) (by omega)).mono ?_
    rintro e w8 ⟨rfl, o8, b8⟩
    have B8 := Below.andThen B7 b8
    have r8 := o7.below b8
    clear o7 b8 B7
    go_wp2_with fail
    refine (eqIntS_any _ _ _ _ _ _ _ zs zs hl hl r8 o8.reads (by omega)).mono ?_
    rintro e w9 ⟨rfl, hs9⟩
    go_wp2
    go_ret
    exact ⟨rfl, Below.andSame B8 hs9⟩
  · go_enter Try.func7, Try.ntmps7
    go_wp2
    go_ret
    exact ⟨rfl, Below.refl _ _⟩

end Go.Proofs.Ytljkjbfkekihjaa
