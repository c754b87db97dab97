/-
  A disk of one's own that is stored into the result's block: a plain lemma. No condition.
-/
import Derived.Test.YtgjldmjlbhkgbaaFrame
namespace Go.Proofs.Ytgjldmjlbhkgbaa
open Go.RowKit

theorem mem_ret {w V : World} {N R m1 m2 h : Nat} {v0 v1 v3 : Value} {f : Bool} {ss : List (List Int)} {cs : List (Int × List Int)} {bs : List Int} (B : Below w.heap.size w V) (D : tIntS.Own V N m1 [v3] bs) (S : tIntSS.Own V m1 m2 [v0] ss) (C : (tWrS 100).Own V m2 h [v1] cs) (r1 : N ≤ m1) (r2 : m1 ≤ m2) (r3 : m2 ≤ h) (rh : h ≤ V.heap.size) (hR : R < N) (hw : w.heap.size ≤ R) :
    (tMem 100).Own ((((V.setCell ⟨R, 0, none⟩ v0).setCell ⟨R, 1, none⟩ v1).setCell ⟨R, 2, none⟩ (.bool f)).setCell ⟨R, 3, none⟩ v3) w.heap.size ((((V.setCell ⟨R, 0, none⟩ v0).setCell ⟨R, 1, none⟩ v1).setCell ⟨R, 2, none⟩ (.bool f)).setCell ⟨R, 3, none⟩ v3).heap.size [v0, v1, .bool f, v3] (ss, cs, f, bs) ∧ Below w.heap.size w ((((V.setCell ⟨R, 0, none⟩ v0).setCell ⟨R, 1, none⟩ v1).setCell ⟨R, 2, none⟩ (.bool f)).setCell ⟨R, 3, none⟩ v3) := by
  have hbt : But R (R + 1) V ((((V.setCell ⟨R, 0, none⟩ v0).setCell ⟨R, 1, none⟩ v1).setCell ⟨R, 2, none⟩ (.bool f)).setCell ⟨R, 3, none⟩ v3) := (((But.setCell (by omega) (by omega) _).trans (But.setCell (by omega) (by omega) _)).trans (But.setCell (by omega) (by omega) _)).trans (But.setCell (by omega) (by omega) _)
  have z := hbt.size
  exact ⟨mem_own3 (S.but hbt (by omega)) (C.but hbt (by omega)) (D.but hbt (by omega)) (by omega) (by omega) (by omega) ⟨by omega, by omega⟩ ⟨by omega, by omega⟩ ⟨by omega, by omega⟩, Below.andBut B hbt hw⟩

end Go.Proofs.Ytgjldmjlbhkgbaa
