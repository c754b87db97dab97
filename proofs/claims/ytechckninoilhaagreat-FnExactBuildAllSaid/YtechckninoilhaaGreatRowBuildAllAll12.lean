/-
 The walk of the program's settle: the disk with the last write of each sector put there, its cache empty, in memory of its own. Conditions: the disk and the writes weigh at most 2097152 each, the disk has at most 20 sectors, each write is of a sector 0 .. 20.
-/
import Derived.Test.YtechckninoilhaaGreatHeld
import Derived.Test.YtechckninoilhaaGreatFrame
import Derived.Test.YtechckninoilhaaGreatRowBuildAllAll13
import Derived.Test.YtechckninoilhaaGreatOrder
import Derived.Test.YtechckninoilhaaGreatWalkMemOk
import Derived.Test.YtechckninoilhaaGreatBox
import Derived.Maps.Own
import Derived.Maps.OwnSet
import Derived.Maps.OwnOps
import Derived.Maps.Views
import Derived.Test.YtechckninoilhaaGreatStore
import Derived.WideLaws

set_option maxRecDepth 100000
set_option maxHeartbeats 8000000
set_option linter.unusedSimpArgs false

namespace Go.Proofs.YtechckninoilhaaGreat
open Go.RowKit

theorem l2Copy_any (w : World) (E : TypeId) (a0 a1 a3 : Option Addr) (n0 c0 n1 c1 n3 c3 : Nat) (ss : List (List Int)) (cs : List (Int × List Int)) (f : Bool) (bs : List Int) (h0 : tIntSS.Rd w [.slice a0 n0 c0] ss) (h1 : (tWrS E).Rd w [.slice a1 n1 c1] cs) (h3 : tIntS.Rd w [.slice a3 n3 c3] bs) (hw : wtMem (ss, cs, f, bs) <= 2097152) :
 Calls Tryz.prog 59 #[.agg #[.slice a0 n0 c0, .slice a1 n1 c1, .bool f, .slice a3 n3 c3]] w fun e w' => ∃ v0 v1 v3 m1 m2, e = .returned (.agg #[v0, v1, .bool f, v3]) /\ tIntS.Own w' w.heap.size m1 [v3] bs /\ tIntSS.Own w' m1 m2 [v0] ss /\ (tWrS 109).Own w' m2 w'.heap.size [v1] cs /\ m1 <= m2 /\ w.heap.size <= m1 /\ m2 <= w'.heap.size /\ Below w.heap.size w w' := by
 obtain ⟨hl0, _, hm0⟩ := row_length h0
 obtain ⟨hl1, _, hm1⟩ := row_length h1
 obtain ⟨hl3, _, hm3⟩ := row_length h3
 have hw0 : wtIntSS ss <= 2097152 := by unfold wtMem at hw; simp only at hw; omega
 have hw1 : wtWrS cs <= 2097152 := by unfold wtMem at hw; simp only at hw; omega
 have hw3 : n3 <= 2097152 := by unfold wtMem at hw; simp only at hw; omega
 have hn0 : n0 <= 2097152 := by unfold wtIntSS at hw0; omega
 have hn1 : n1 <= 2097152 := by unfold wtWrS at hw1; omega
 obtain ⟨i0, hi, hz0, hz1, hz2⟩ := info_parts Tryz.infoIntS
 obtain ⟨i3, hi3, hx0, hx1, hx2⟩ := info_parts Tryz.info3
 obtain ⟨i1, hi1, hy0, hy1, hy2⟩ := info_parts Tryz.infoWr
 have hA : Below w.heap.size w ((w.alloc (.cells #[.slice a0 n0 c0, .slice a1 n1 c1, .bool f, .slice a3 n3 c3] 51)).alloc (.cells #[.slice none 0 0, .slice none 0 0, .bool false, .slice none 0 0] 51)) := ((Below.refl _ _).alloc (Nat.le_refl _) _).alloc (by simp) _
 have xm : Box ((w.alloc (.cells #[.slice a0 n0 c0, .slice a1 n1 c1, .bool f, .slice a3 n3 c3] 51)).alloc (.cells #[.slice none 0 0, .slice none 0 0, .bool false, .slice none 0 0] 51)) w.heap.size 51 #[.slice a0 n0 c0, .slice a1 n1 c1, .bool f, .slice a3 n3 c3] := (Box.new w _ _).alloc _
 have xr : Box ((w.alloc (.cells #[.slice a0 n0 c0, .slice a1 n1 c1, .bool f, .slice a3 n3 c3] 51)).alloc (.cells #[.slice none 0 0, .slice none 0 0, .bool false, .slice none 0 0] 51)) (w.heap.size + 1) 51 #[.slice none 0 0, .slice none 0 0, .bool false, .slice none 0 0] := by
  have := Box.new (w.alloc (.cells #[.slice a0 n0 c0, .slice a1 n1 c1, .bool f, .slice a3 n3 c3] 51)) 51 #[.slice none 0 0, .slice none 0 0, .bool false, .slice none 0 0]
  rw [show (w.alloc (.cells #[.slice a0 n0 c0, .slice a1 n1 c1, .bool f, .slice a3 n3 c3] 51)).heap.size = w.heap.size + 1 by simp] at this
  exact this
 have hsz : ((w.alloc (.cells #[.slice a0 n0 c0, .slice a1 n1 c1, .bool f, .slice a3 n3 c3] 51)).alloc (.cells #[.slice none 0 0, .slice none 0 0, .bool false, .slice none 0 0] 51)).heap.size = w.heap.size + 1 + 1 := by simp
 have HSZ := hidden hsz
 clear hsz
 go_enter Tryz.func59, Tryz.ntmps59
 go_wp2_with fail
 generalize hW : (w.alloc (.cells #[.slice a0 n0 c0, .slice a1 n1 c1, .bool f, .slice a3 n3 c3] 51)).alloc (.cells #[.slice none 0 0, .slice none 0 0, .bool false, .slice none 0 0] 51) = W at hA xm xr HSZ ⊢
 clear hW
 obtain ⟨q0, q1, q2, q3⟩ := xm.cells4
 have zW : w.heap.size < W.heap.size := xm.lt
 have g3 := h3.below hA
 refine' with_key (G := _) (A := fun BO g w6 a5 c5 fp3 => Box w6 w.heap.size 51 #[.slice a0 n0 c0, .slice a1 n1 c1, .bool f, .slice a3 n3 c3] /\ Box w6 (w.heap.size + 1) 51 #[.slice none 0 0, .slice none 0 0, .bool false, .slice none 0 0] /\ Box w6 BO 51 #[.slice none 0 0, .slice none 0 0, .bool f, .slice a5 n3 c5] /\ tIntS.Mine w6 [.slice a5 n3 c5] bs fp3 /\ Below w.heap.size w w6 /\ (w.heap.size + 2 <= BO /\ BO < w6.heap.size /\ ∀ b ∈ fp3, w.heap.size + 2 <= b /\ b < w6.heap.size /\ b ≠ BO)) ?main (fun key => ?use)
 case use =>
  have sW : w.heap.size + 2 <= W.heap.size := by have := HSZ.out; omega
  have hgA : Box (W.alloc (.cells #[] 3)) W.heap.size 3 #[] := Box.new W 3 #[]
  have hgB : Box ((W.alloc (.cells #[] 3)).alloc (.cells #[.slice none 0 0, .slice none 0 0, .bool false, .slice none 0 0] 51)) W.heap.size 3 #[] := hgA.alloc _
  have hgC : Box ((W.alloc (.cells #[.slice none 0 0, .slice none 0 0, .bool false, .slice none 0 0] 51)).alloc (.cells #[] 3)) (W.heap.size + 1) 3 #[] := by
   have := Box.new (W.alloc (.cells #[.slice none 0 0, .slice none 0 0, .bool false, .slice none 0 0] 51)) 3 #[]
   rw [show (W.alloc (.cells #[.slice none 0 0, .slice none 0 0, .bool false, .slice none 0 0] 51)).heap.size = W.heap.size + 1 by simp] at this
   exact this
  have xoB : Box ((W.alloc (.cells #[] 3)).alloc (.cells #[.slice none 0 0, .slice none 0 0, .bool false, .slice none 0 0] 51)) (W.heap.size + 1) 51 #[.slice none 0 0, .slice none 0 0, .bool false, .slice none 0 0] := by
   have := Box.new (W.alloc (.cells #[] 3)) 51 #[.slice none 0 0, .slice none 0 0, .bool false, .slice none 0 0]
   rw [show (W.alloc (.cells #[] 3)).heap.size = W.heap.size + 1 by simp] at this
   exact this
  have xoC : Box ((W.alloc (.cells #[.slice none 0 0, .slice none 0 0, .bool false, .slice none 0 0] 51)).alloc (.cells #[] 3)) W.heap.size 51 #[.slice none 0 0, .slice none 0 0, .bool false, .slice none 0 0] := (Box.new W _ _).alloc _
  have zA : (W.alloc (.cells #[] 3)).heap.size = W.heap.size + 1 := by simp
  have zB : ((W.alloc (.cells #[] 3)).alloc (.cells #[.slice none 0 0, .slice none 0 0, .bool false, .slice none 0 0] 51)).heap.size = W.heap.size + 2 := by simp
  have zC : ((W.alloc (.cells #[.slice none 0 0, .slice none 0 0, .bool false, .slice none 0 0] 51)).alloc (.cells #[] 3)).heap.size = W.heap.size + 2 := by simp
  have ZA := hidden zA
  have ZB := hidden zB
  have ZC := hidden zC
  have HGA : Hid ((W.alloc (.cells #[] 3)).drew.heap[W.heap.size]? = some (.cells #[] 3 (0, 0))) := hgA
  have RDA : Hid (tIntS.Rd (W.alloc (.cells #[] 3)).drew [.slice a3 n3 c3] bs) := (g3.below ((Below.refl _ _).alloc (Nat.le_refl _) _)).drew
  have HGB : Hid (((W.alloc (.cells #[] 3)).alloc (.cells #[.slice none 0 0, .slice none 0 0, .bool false, .slice none 0 0] 51)).drew.heap[W.heap.size]? = some (.cells #[] 3 (0, 0))) := hgB
  have RDB : Hid (tIntS.Rd ((W.alloc (.cells #[] 3)).alloc (.cells #[.slice none 0 0, .slice none 0 0, .bool false, .slice none 0 0] 51)).drew [.slice a3 n3 c3] bs) := (g3.below (((Below.refl _ _).alloc (Nat.le_refl _) _).alloc (by simp) _)).drew
  have HGC : Hid (((W.alloc (.cells #[.slice none 0 0, .slice none 0 0, .bool false, .slice none 0 0] 51)).alloc (.cells #[] 3)).drew.heap[W.heap.size + 1]? = some (.cells #[] 3 (0, 0))) := hgC
  have RDC : Hid (tIntS.Rd ((W.alloc (.cells #[.slice none 0 0, .slice none 0 0, .bool false, .slice none 0 0] 51)).alloc (.cells #[] 3)).drew [.slice a3 n3 c3] bs) := (g3.below (((Below.refl _ _).alloc (Nat.le_refl _) _).alloc (by simp) _)).drew
  have XOB := hidden xoB
  have XOC := hidden xoC
  have XM := hidden xm
  have XR := hidden xr
  have G3 := hidden g3
  clear zA zB zC hgA hgB hgC xoB xoC
  have hS : ∀ w', Box w' w.heap.size 51 #[.slice a0 n0 c0, .slice a1 n1 c1, .bool f, .slice a3 n3 c3] -> w'.cell? ⟨w.heap.size, 2, none⟩ = some (.bool f) /\ w'.cell? ⟨w.heap.size, 3, none⟩ = some (.slice a3 n3 c3) := fun w' hb => ⟨hb.cell 2, hb.cell 3⟩
  have nB : Hid (w.heap.size ≠ W.heap.size + 1) := by unfold Hid; omega
  have nC : Hid (w.heap.size ≠ W.heap.size) := by unfold Hid; omega
  have hD : ∀ w', Box w' w.heap.size 51 #[.slice a0 n0 c0, .slice a1 n1 c1, .bool f, .slice a3 n3 c3] -> w'.drew.cell? ⟨w.heap.size, 2, none⟩ = some (.bool f) /\ w'.drew.cell? ⟨w.heap.size, 3, none⟩ = some (.slice a3 n3 c3) := hS
  go_region_held3 (fun w' => w'.cell? ⟨w.heap.size, 2, none⟩ = some (.bool f) /\ w'.cell? ⟨w.heap.size, 3, none⟩ = some (.slice a3 n3 c3))
   (first | (with_reducible exact hS w5 XM5.out) | (with_reducible exact hS _ (XM5.out.alloc _)) | (with_reducible exact hS _ ((((XM5.out.other nB.out 0 _).other nB.out 1 _).other nB.out 2 _).other nB.out 3 _)) | (with_reducible exact hS _ ((((XM5.out.other nC.out 0 _).other nC.out 1 _).other nC.out 2 _).other nC.out 3 _)) | (with_reducible exact hD _ XM.out) | (with_reducible exact hD _ (XM.out.alloc _)) | (with_reducible exact hD _ ((XM.out.alloc _).alloc _)) | go_keep)
   (first
    | (refine step_copy (by rfl) _ _ 49 (by rfl) i3 Tryz.underlying49 hi3 hx0 hx1 hx2 W.heap.size (by rfl) (by with_reducible exact HGA.out) a3 n3 c3 bs (by rfl) (by with_reducible exact RDA.out) (by omega) ?_; intro a5 c5 w5 fp3 m3 r3 t3; have t3' : Turned [W.heap.size] (W.alloc (.cells #[] 3)) w5 := Turned.undrew t3; have XM5 := hidden ((XM.out.alloc (.cells #[] 3)).turned t3' (by simp; omega)); have XR5 := hidden ((XR.out.alloc (.cells #[] 3)).turned t3' (by simp; omega)); have T3 := hidden t3'; have M3 := hidden m3; have R3 := hidden r3; clear t3 t3' m3 r3)
    | (refine step_copy (by rfl) _ _ 49 (by rfl) i3 Tryz.underlying49 hi3 hx0 hx1 hx2 W.heap.size (by rfl) (by with_reducible exact HGB.out) a3 n3 c3 bs (by rfl) (by with_reducible exact RDB.out) (by omega) ?_; intro a5 c5 w5 fp3 m3 r3 t3; have t3' : Turned [W.heap.size] ((W.alloc (.cells #[] 3)).alloc (.cells #[.slice none 0 0, .slice none 0 0, .bool false, .slice none 0 0] 51)) w5 := Turned.undrew t3; have XM5 := hidden (((XM.out.alloc (.cells #[] 3)).alloc (.cells #[.slice none 0 0, .slice none 0 0, .bool false, .slice none 0 0] 51)).turned t3' (by simp; omega)); have XR5 := hidden (((XR.out.alloc (.cells #[] 3)).alloc (.cells #[.slice none 0 0, .slice none 0 0, .bool false, .slice none 0 0] 51)).turned t3' (by simp; omega)); have xo5 := XOB.out.turned t3' (by simp); obtain ⟨s0, s1, s2, s3⟩ := xo5.cells4; have u0 := xo5.frozen 0; have u1 := xo5.frozen 1; have u2 := xo5.frozen 2; have u3 := xo5.frozen 3; have XO5 := hidden xo5; have T3 := hidden t3'; have M3 := hidden m3; have R3 := hidden r3; clear t3 t3' m3 r3 xo5)
    | (refine step_copy (by rfl) _ _ 49 (by rfl) i3 Tryz.underlying49 hi3 hx0 hx1 hx2 (W.heap.size + 1) (by rfl) (by with_reducible exact HGC.out) a3 n3 c3 bs (by rfl) (by with_reducible exact RDC.out) (by omega) ?_; intro a5 c5 w5 fp3 m3 r3 t3; have t3' : Turned [W.heap.size + 1] ((W.alloc (.cells #[.slice none 0 0, .slice none 0 0, .bool false, .slice none 0 0] 51)).alloc (.cells #[] 3)) w5 := Turned.undrew t3; have XM5 := hidden (((XM.out.alloc (.cells #[.slice none 0 0, .slice none 0 0, .bool false, .slice none 0 0] 51)).alloc (.cells #[] 3)).turned t3' (by simp; omega)); have XR5 := hidden (((XR.out.alloc (.cells #[.slice none 0 0, .slice none 0 0, .bool false, .slice none 0 0] 51)).alloc (.cells #[] 3)).turned t3' (by simp; omega)); have xo5 := XOC.out.turned t3' (by simp); obtain ⟨s0, s1, s2, s3⟩ := xo5.cells4; have u0 := xo5.frozen 0; have u1 := xo5.frozen 1; have u2 := xo5.frozen 2; have u3 := xo5.frozen 3; have XO5 := hidden xo5; have T3 := hidden t3'; have M3 := hidden m3; have R3 := hidden r3; clear t3 t3' m3 r3 xo5))
  . have hT := T3.out
    have zA := ZA.out
    have zT := hT.size
    have z6 : (w5.alloc (.cells #[.slice none 0 0, .slice none 0 0, .bool f, .slice a5 n3 c5] 51)).heap.size = w5.heap.size + 1 := by simp
    have FM := XM5.out.alloc (.cells #[.slice none 0 0, .slice none 0 0, .bool f, .slice a5 n3 c5] 51)
    have FR := XR5.out.alloc (.cells #[.slice none 0 0, .slice none 0 0, .bool f, .slice a5 n3 c5] 51)
    have FO := Box.new w5 51 #[.slice none 0 0, .slice none 0 0, .bool f, .slice a5 n3 c5]
    have F3 := M3.out.alloc (.cells #[.slice none 0 0, .slice none 0 0, .bool f, .slice a5 n3 c5] 51)
    have FB : Below w.heap.size w (w5.alloc (.cells #[.slice none 0 0, .slice none 0 0, .bool f, .slice a5 n3 c5] 51)) := (((hA.alloc (by omega) (.cells #[] 3)).trans (hT.below (N := w.heap.size) (by omega) (by simp; omega))).alloc (by omega) (.cells #[.slice none 0 0, .slice none 0 0, .bool f, .slice a5 n3 c5] 51))
    have FS : w.heap.size + 2 <= w5.heap.size /\ w5.heap.size < (w5.alloc (.cells #[.slice none 0 0, .slice none 0 0, .bool f, .slice a5 n3 c5] 51)).heap.size /\ ∀ b ∈ fp3, w.heap.size + 2 <= b /\ b < (w5.alloc (.cells #[.slice none 0 0, .slice none 0 0, .bool f, .slice a5 n3 c5] 51)).heap.size /\ b ≠ w5.heap.size := ⟨by omega, by omega, fun b hb => by
     obtain ⟨h1, h2⟩ := R3.out b hb
     have h3 : (W.alloc (.cells #[] 3)).drew.heap.size = (W.alloc (.cells #[] 3)).heap.size := rfl
     omega⟩
    have ALL := hidden (And.intro FM (And.intro FR (And.intro FO (And.intro F3 (And.intro FB FS)))))
    clear FM FR FO F3 FB FS hT zA zT z6
    generalize w5.alloc (.cells #[.slice none 0 0, .slice none 0 0, .bool f, .slice a5 n3 c5] 51) = w6 at ALL ⊢
    generalize w5.heap.size = BO at ALL ⊢
    generalize W.heap.size = g
    exact key.out BO g w6 a5 c5 fp3 ALL.out
  . have hT := T3.out
    have zA := ZB.out
    have zT := hT.size
    have hbt : But (W.heap.size + 1) (W.heap.size + 1 + 1) w5 ((((w5.setCell ⟨W.heap.size + 1, 0, none⟩ (.slice none 0 0)).setCell ⟨W.heap.size + 1, 1, none⟩ (.slice none 0 0)).setCell ⟨W.heap.size + 1, 2, none⟩ (.bool f)).setCell ⟨W.heap.size + 1, 3, none⟩ (.slice a5 n3 c5)) :=
     (((But.setCell (by omega) (by omega) _).trans (But.setCell (by omega) (by omega) _)).trans (But.setCell (by omega) (by omega) _)).trans (But.setCell (by omega) (by omega) _)
    have z6 := hbt.size
    have rr : ∀ b ∈ fp3, w.heap.size + 2 <= b /\ b < w5.heap.size /\ b ≠ W.heap.size + 1 := fun b hb => by
     obtain ⟨h1, h2⟩ := R3.out b hb
     have h3 : ((W.alloc (.cells #[] 3)).alloc (.cells #[.slice none 0 0, .slice none 0 0, .bool false, .slice none 0 0] 51)).drew.heap.size = ((W.alloc (.cells #[] 3)).alloc (.cells #[.slice none 0 0, .slice none 0 0, .bool false, .slice none 0 0] 51)).heap.size := rfl
     omega
    have FM := XM5.out.kept (hbt.block _ (by omega) (by omega))
    have FR := XR5.out.kept (hbt.block _ (by omega) (by omega))
    have FO := (((XO5.out.set 0 (.slice none 0 0)).set 1 (.slice none 0 0)).set 2 (.bool f)).set 3 (.slice a5 n3 c5)
    have F3 := M3.out.but hbt (fun b hb => by have := rr b hb; omega)
    have FB : Below w.heap.size w ((((w5.setCell ⟨W.heap.size + 1, 0, none⟩ (.slice none 0 0)).setCell ⟨W.heap.size + 1, 1, none⟩ (.slice none 0 0)).setCell ⟨W.heap.size + 1, 2, none⟩ (.bool f)).setCell ⟨W.heap.size + 1, 3, none⟩ (.slice a5 n3 c5)) := ((hA.alloc (by omega) (.cells #[] 3)).alloc (by simp; omega) (.cells #[.slice none 0 0, .slice none 0 0, .bool false, .slice none 0 0] 51)).trans ((hT.below (N := w.heap.size) (by omega) (by simp; omega)).trans (hbt.below (by omega) (by omega)))
    have FS : w.heap.size + 2 <= W.heap.size + 1 /\ W.heap.size + 1 < ((((w5.setCell ⟨W.heap.size + 1, 0, none⟩ (.slice none 0 0)).setCell ⟨W.heap.size + 1, 1, none⟩ (.slice none 0 0)).setCell ⟨W.heap.size + 1, 2, none⟩ (.bool f)).setCell ⟨W.heap.size + 1, 3, none⟩ (.slice a5 n3 c5)).heap.size /\ ∀ b ∈ fp3, w.heap.size + 2 <= b /\ b < ((((w5.setCell ⟨W.heap.size + 1, 0, none⟩ (.slice none 0 0)).setCell ⟨W.heap.size + 1, 1, none⟩ (.slice none 0 0)).setCell ⟨W.heap.size + 1, 2, none⟩ (.bool f)).setCell ⟨W.heap.size + 1, 3, none⟩ (.slice a5 n3 c5)).heap.size /\ b ≠ W.heap.size + 1 := ⟨by omega, by omega, fun b hb => by have := rr b hb; omega⟩
    have ALL := hidden (And.intro FM (And.intro FR (And.intro FO (And.intro F3 (And.intro FB FS)))))
    clear FM FR FO F3 FB FS hT zA zT z6 rr hbt
    generalize ((((w5.setCell ⟨W.heap.size + 1, 0, none⟩ (.slice none 0 0)).setCell ⟨W.heap.size + 1, 1, none⟩ (.slice none 0 0)).setCell ⟨W.heap.size + 1, 2, none⟩ (.bool f)).setCell ⟨W.heap.size + 1, 3, none⟩ (.slice a5 n3 c5)) = w6 at ALL ⊢
    generalize W.heap.size + 1 = BO at ALL ⊢
    generalize W.heap.size = g
    exact key.out BO g w6 a5 c5 fp3 ALL.out
  have hT := T3.out
  have zA := ZC.out
  have zT := hT.size
  have hbt : But (W.heap.size) (W.heap.size + 1) w5 ((((w5.setCell ⟨W.heap.size, 0, none⟩ (.slice none 0 0)).setCell ⟨W.heap.size, 1, none⟩ (.slice none 0 0)).setCell ⟨W.heap.size, 2, none⟩ (.bool f)).setCell ⟨W.heap.size, 3, none⟩ (.slice a5 n3 c5)) :=
   (((But.setCell (by omega) (by omega) _).trans (But.setCell (by omega) (by omega) _)).trans (But.setCell (by omega) (by omega) _)).trans (But.setCell (by omega) (by omega) _)
  have z6 := hbt.size
  have rr : ∀ b ∈ fp3, w.heap.size + 2 <= b /\ b < w5.heap.size /\ b ≠ W.heap.size := fun b hb => by
   obtain ⟨h1, h2⟩ := R3.out b hb
   have h3 : ((W.alloc (.cells #[.slice none 0 0, .slice none 0 0, .bool false, .slice none 0 0] 51)).alloc (.cells #[] 3)).drew.heap.size = ((W.alloc (.cells #[.slice none 0 0, .slice none 0 0, .bool false, .slice none 0 0] 51)).alloc (.cells #[] 3)).heap.size := rfl
   omega
  have FM := XM5.out.kept (hbt.block _ (by omega) (by omega))
  have FR := XR5.out.kept (hbt.block _ (by omega) (by omega))
  have FO := (((XO5.out.set 0 (.slice none 0 0)).set 1 (.slice none 0 0)).set 2 (.bool f)).set 3 (.slice a5 n3 c5)
  have F3 := M3.out.but hbt (fun b hb => by have := rr b hb; omega)
  have FB : Below w.heap.size w ((((w5.setCell ⟨W.heap.size, 0, none⟩ (.slice none 0 0)).setCell ⟨W.heap.size, 1, none⟩ (.slice none 0 0)).setCell ⟨W.heap.size, 2, none⟩ (.bool f)).setCell ⟨W.heap.size, 3, none⟩ (.slice a5 n3 c5)) := ((hA.alloc (by omega) (.cells #[.slice none 0 0, .slice none 0 0, .bool false, .slice none 0 0] 51)).alloc (by simp; omega) (.cells #[] 3)).trans ((hT.below (N := w.heap.size) (by omega) (by simp; omega)).trans (hbt.below (by omega) (by omega)))
  have FS : w.heap.size + 2 <= W.heap.size /\ W.heap.size < ((((w5.setCell ⟨W.heap.size, 0, none⟩ (.slice none 0 0)).setCell ⟨W.heap.size, 1, none⟩ (.slice none 0 0)).setCell ⟨W.heap.size, 2, none⟩ (.bool f)).setCell ⟨W.heap.size, 3, none⟩ (.slice a5 n3 c5)).heap.size /\ ∀ b ∈ fp3, w.heap.size + 2 <= b /\ b < ((((w5.setCell ⟨W.heap.size, 0, none⟩ (.slice none 0 0)).setCell ⟨W.heap.size, 1, none⟩ (.slice none 0 0)).setCell ⟨W.heap.size, 2, none⟩ (.bool f)).setCell ⟨W.heap.size, 3, none⟩ (.slice a5 n3 c5)).heap.size /\ b ≠ W.heap.size := ⟨by omega, by omega, fun b hb => by have := rr b hb; omega⟩
  have ALL := hidden (And.intro FM (And.intro FR (And.intro FO (And.intro F3 (And.intro FB FS)))))
  clear FM FR FO F3 FB FS hT zA zT z6 rr hbt
  generalize ((((w5.setCell ⟨W.heap.size, 0, none⟩ (.slice none 0 0)).setCell ⟨W.heap.size, 1, none⟩ (.slice none 0 0)).setCell ⟨W.heap.size, 2, none⟩ (.bool f)).setCell ⟨W.heap.size, 3, none⟩ (.slice a5 n3 c5)) = w6 at ALL ⊢
  generalize W.heap.size + 1 = g
  generalize W.heap.size = BO at ALL ⊢
  exact key.out BO g w6 a5 c5 fp3 ALL.out
 rintro BO g w6 a5 c5 fp3 ⟨fm, fr0, fo, f3, fb, fs⟩
 have FM := hidden fm
 have FR := hidden fr0
 have FO := hidden fo
 have F3 := hidden f3
 have FB := hidden fb
 have FS := hidden fs
 clear fm fr0 fo f3 fb fs
 clear xm xr q0 q1 q2 q3 HSZ zW g3 hA
 obtain ⟨p0, p1, p2, p3⟩ := FM.out.cells4
 obtain ⟨fs1, fs2, fs3⟩ := FS.out
 go_wp2
 go_loopw [4] (fun i wr => ∃ (j : Nat) (v0 : Value) (fp0 : List Nat), j <= n0 /\ i = .int .i64 j /\ Fr w6.heap.size BO w6 wr /\ Box wr BO 51 #[v0, .slice none 0 0, .bool f, .slice a5 n3 c5] /\ tIntSS.Mine wr [v0] (ss.take j) fp0 /\ (∀ b ∈ fp0, w6.heap.size <= b)) (fun i _ => n0 - (intOf i).toNat)
 case atStart => exact ⟨0, _, [], Nat.zero_le _, rfl, Fr.refl _ _ _, FO.out, nil_mine _, by simp⟩
 obtain ⟨j, v0, fp0, hj, rfl, fr, xo, hm, hfp⟩ := hrel
 have hs := fr.size
 have xm := fr.box FM.out (by omega) (by omega)
 have hb := FB.out.trans (fr.below (M := w.heap.size) (by omega) (by omega))
 obtain ⟨q0, q1, q2, q3⟩ := xm.cells4
 by_cases hjn : j < n0
 . rcases rows_at rfl h0 with h0' | ⟨b, off, rfl, hbl, hcs⟩
   . omega
   have hdj : ss[j]? = some (ss[j]'(by omega)) := List.getElem?_eq_getElem (by omega)
   have htk : ss.take (j + 1) = ss.take j ++ [ss[j]'(by omega)] := List.take_succ_eq_append_getElem (by omega)
   generalize ss[j]'(by omega) = x at hdj htk
   have hil := inner_le hdj
   obtain ⟨v, hv, hrv⟩ := hcs j x hdj
   obtain ⟨av, cv, rfl⟩ := row_shape hrv
   have pv := (hb.cell (p := ⟨b, off + j, none⟩) hbl).trans hv
   have HX := hidden (hrv.below hb)
   have k1 : (0 : Int) <= (j : Int) := by omega
   have k2 : (j : Int) < (n0 : Int) := by omega
   have HTK := hidden htk
   have XO := hidden xo
   have XMR := hidden xm
   have FRR := hidden fr
   have HM := hidden hm
   have HFP := hidden hfp
   have HL : Hid ((ss.take j).length = j) := by unfold Hid; rw [List.length_take]; omega
   have L1 : Hid ((ss.take j).length + 1 <= maxLen) := by unfold Hid; rw [HL.out]; unfold maxLen; omega
   have L2 : Hid (((ss.take j).length + 1) * 24 <= 140737488355328) := by unfold Hid; rw [HL.out]; omega
   have mk : Hid (∀ w', Box w' BO 51 #[v0, .slice none 0 0, .bool f, .slice a5 n3 c5] -> Box w' w.heap.size 51 #[.slice (some ⟨b, off, none⟩) n0 c0, .slice a1 n1 c1, .bool f, .slice a3 n3 c3] -> w'.heap[b]? = wr.heap[b]? -> w'.cell? ⟨BO, 0, none⟩ = some (v0) /\ w'.cell? ⟨w.heap.size, 0, none⟩ = some (.slice (some ⟨b, off, none⟩) n0 c0) /\ w'.cell? ⟨b, off + j, none⟩ = some (.slice av x.length cv)) := fun w' e1 e2 e3 => ⟨e1.cell 0, e2.cell 0, (World.cell?_of_block e3).trans pv⟩
   have bA : Below wr.heap.size wr (wr.alloc (.cells #[] 3)) := (Below.refl _ _).alloc (Nat.le_refl _) _
   have hS : wr.drew.cell? ⟨BO, 0, none⟩ = some (v0) /\ wr.drew.cell? ⟨w.heap.size, 0, none⟩ = some (.slice (some ⟨b, off, none⟩) n0 c0) /\ wr.drew.cell? ⟨b, off + j, none⟩ = some (.slice av x.length cv) := mk.out wr.drew xo xm rfl
   have hS2 : (wr.alloc (.cells #[] 3)).drew.cell? ⟨BO, 0, none⟩ = some (v0) /\ (wr.alloc (.cells #[] 3)).drew.cell? ⟨w.heap.size, 0, none⟩ = some (.slice (some ⟨b, off, none⟩) n0 c0) /\ (wr.alloc (.cells #[] 3)).drew.cell? ⟨b, off + j, none⟩ = some (.slice av x.length cv) := mk.out (wr.alloc (.cells #[] 3)).drew (xo.alloc _) (xm.alloc _) (bA.block b (by omega))
   have HG : Hid ((wr.alloc (.cells #[] 3)).drew.heap[wr.heap.size]? = some (.cells #[] 3 (0, 0))) := Box.new wr 3 #[]
   have RD : Hid (tIntS.Rd (wr.alloc (.cells #[] 3)).drew [.slice av x.length cv] x) := (HX.out.below bA).drew
   have BA := hidden bA
   clear hcs hdj hv hrv htk xo xm hm hfp hb fr pv bA
   go_wp2_with fail
   refine Upto.start (S := fun w' => w'.cell? ⟨BO, 0, none⟩ = some (v0) /\ w'.cell? ⟨w.heap.size, 0, none⟩ = some (.slice (some ⟨b, off, none⟩) n0 c0) /\ w'.cell? ⟨b, off + j, none⟩ = some (.slice av x.length cv)) (k := 12) (by kernel_rfl) ?_
   refine Upto.t 0 hS ?_
   refine Upto.t 1 hS ?_
   refine Upto.t 3 hS ?_
   refine Upto.t 4 hS ?_
   refine Upto.t 5 hS ?_
   refine Upto.t 6 hS ?_
   refine Upto.t 7 hS ?_
   refine Upto.one (i := 2) (by kernel_rfl) rfl (fun K hK => ?_)
   go_simp
   refine hK.out _ _ (fun _ => hS2) ?_
   clear hK K
   refine Upto.one (i := 8) (by kernel_rfl) rfl (fun K hK => ?_)
   refine step_copy (by rfl) _ _ 49 (by rfl) i3 Tryz.underlying49 hi3 hx0 hx1 hx2 wr.heap.size (by rfl) HG.out av x.length cv x (by rfl) RD.out (by omega) ?_
   intro ac cc wc fpx mx rx tx
   have tx' : Turned [wr.heap.size] (wr.alloc (.cells #[] 3)) wc := Turned.undrew tx
   have zA : (wr.alloc (.cells #[] 3)).heap.size = wr.heap.size + 1 := by simp
   have zd : (wr.alloc (.cells #[] 3)).drew.heap.size = (wr.alloc (.cells #[] 3)).heap.size := rfl
   have hbc' : Below wr.heap.size wr wc := BA.out.trans (tx'.below (N := wr.heap.size) (by omega) (by simp))
   have xoc : Box wc BO 51 _ := XO.out.below hbc' (by omega)
   have xmc : Box wc w.heap.size 51 _ := XMR.out.below hbc' (by omega)
   have hS3 : wc.cell? ⟨BO, 0, none⟩ = some (v0) /\ wc.cell? ⟨w.heap.size, 0, none⟩ = some (.slice (some ⟨b, off, none⟩) n0 c0) /\ wc.cell? ⟨b, off + j, none⟩ = some (.slice av x.length cv) := mk.out wc xoc xmc (hbc'.block b (by omega))
   have bB : Below wc.heap.size wc (wc.alloc (.cells #[.slice ac x.length cc] 49)) := (Below.refl _ _).alloc (Nat.le_refl _) _
   have zc := hbc'.size
   have hS4 : (wc.alloc (.cells #[.slice ac x.length cc] 49)).cell? ⟨BO, 0, none⟩ = some (v0) /\ (wc.alloc (.cells #[.slice ac x.length cc] 49)).cell? ⟨w.heap.size, 0, none⟩ = some (.slice (some ⟨b, off, none⟩) n0 c0) /\ (wc.alloc (.cells #[.slice ac x.length cc] 49)).cell? ⟨b, off + j, none⟩ = some (.slice av x.length cv) := mk.out _ (xoc.alloc _) (xmc.alloc _) ((bB.block b (by omega)).trans (hbc'.block b (by omega)))
   have RX : Hid (∀ b ∈ fpx, wr.heap.size <= b /\ b < wc.heap.size) := fun b hb => by have := rx b hb; omega
   have XOC := hidden xoc
   have XMC := hidden xmc
   have MX := hidden mx
   have HBC := hidden hbc'
   have BB := hidden (Below.andThen hbc' bB)
   clear xoc xmc mx rx tx tx' hbc' bB zA zd
   refine hK.out _ _ (fun _ => hS3) ?_
   clear hK K
   simp only [Act.put, List.setIfInBounds_toArray, List.set_cons_zero, List.set_cons_succ]
   refine Upto.one (i := 9) (by kernel_rfl) rfl (fun K hK => ?_)
   go_simp
   refine hK.out _ _ (fun _ => hS4) ?_
   clear hK K
   refine Upto.one (i := 10) (by kernel_rfl) rfl (fun K hK => ?_)
   refine step_appT tIntS (by rfl) _ _ 47 (by rfl) 49 i0 (.slice none 0 0) 24 Tryz.underlying47 hi hz0 hz1 hz2 rfl Nat.zero_lt_one v0 (ss.take j) fp0 (by rfl) ?_ ⟨wc.heap.size, 0, none⟩ 1 [.slice ac x.length cc] x fpx (by rfl) ?_ ?_ ?_ ?_ L1.out L2.out ?_
   . exact (HM.out.below HBC.out).alloc _
   . exact MX.out.alloc _
   . intro b hb hb'
     have h1 := HM.out.lt b hb
     have h2 := RX.out b hb'
     omega
   . exact news_new _ _ _
   . intro u hu
     simp at hu
     rw [hu]
     rfl
   intro g cap wA fpA m1 m2 m3
   rw [HL.out] at m1 ⊢
   rw [← HTK.out] at m1
   have ya : Box wA BO 51 _ := (XOC.out.alloc _).turned m3 (fun hm => by have := HFP.out _ hm; omega)
   have ym : Box wA w.heap.size 51 _ := (XMC.out.alloc _).turned m3 (fun hm => by have := HFP.out _ hm; omega)
   have zB : (wc.alloc (.cells #[.slice ac x.length cc] 49)).heap.size = wc.heap.size + 1 := by simp
   have hS5 : wA.cell? ⟨BO, 0, none⟩ = some (v0) /\ wA.cell? ⟨w.heap.size, 0, none⟩ = some (.slice (some ⟨b, off, none⟩) n0 c0) /\ wA.cell? ⟨b, off + j, none⟩ = some (.slice av x.length cv) := mk.out wA ya ym ((m3.block b (by omega) (fun hm => by have := HFP.out _ hm; omega)).trans (BB.out.block b (by omega)))
   have r0 := hS5.1
   have fz := ya.frozen 0
   have YA := hidden ya
   have M1 := hidden m1
   have M2 := hidden m2
   have M3 := hidden m3
   clear ya ym m1 m2 m3 zB
   refine hK.out _ _ (fun _ => hS5) ?_
   clear hK K
   simp only [Act.put, List.setIfInBounds_toArray, List.set_cons_zero, List.set_cons_succ]
   refine Upto.t 11 hS5 ?_
   refine Upto.one (i := 12) (by kernel_rfl) rfl (fun K hK => ?_)
   go_simp
   refine hK.out _ _ (fun h => absurd rfl h) ?_
   clear hK K
   refine Upto.done (by kernel_rfl) ?_ _
   have hfA := round_fp (N := w6.heap.size) hs HBC.out HFP.out RX.out M2.out
   have frA := Fr.round FRR.out hs HBC.out _ M3.out HFP.out 0 (.slice (some ⟨g, 0, none⟩) (j + 1) cap)
   have mA := M1.out.setCell (g := BO) (j := 0) (fun hm => by have := hfA _ hm; omega) (.slice (some ⟨g, 0, none⟩) (j + 1) cap)
   have yA := YA.out.set 0 (.slice (some ⟨g, 0, none⟩) (j + 1) cap)
   have HFA := hidden hfA
   have FRA := hidden frA
   have MA := hidden mA
   have YA' := hidden yA
   clear hfA frA mA yA hS hS2 hS3 hS4 hS5 r0 YA M1 M2 M3 XOC MX RX HBC HFP HM FRR XO XMR XMC BA BB mk HG RD HX
   go_wp2
   go_roundw
   case rel => exact ⟨j + 1, _, fpA, by omega, by go_num, FRA.out, YA'.out, MA.out, HFA.out⟩
   case measure => simp [intOf]; omega
 have e : n0 = j := by omega
 subst e
 rw [List.take_of_length_le (by omega)] at hm
 have hlt := hm.lt
 have GR := hidden (fr.box FR.out (by omega) (by omega))
 have GM := hidden xm
 have GB := hidden hb
 have G3 := hidden (fr.mine F3.out (fun b hb => by have := fs3 b hb; omega))
 have G0 := hidden (hm.own (lo := w6.heap.size) (hi := wr.heap.size) (fun b hb => ⟨hfp b hb, hlt b hb⟩))
 have GO := hidden xo
 clear fr xo xm hb hm hfp hlt FM FO F3 FB FR
 go_wp2
 generalize wr = w7 at hs GM GR GB G3 G0 GO q0 q1 q2 q3 ⊢
 go_loopw [5] (fun i wr => ∃ (j : Nat) (v1 : Value) (fp1 : List Nat), j <= n1 /\ i = .int .i64 j /\ Fr w7.heap.size BO w7 wr /\ Box wr BO 51 #[v0, v1, .bool f, .slice a5 n3 c5] /\ (tWrS 109).Mine wr [v1] (cs.take j) fp1 /\ (∀ b ∈ fp1, w7.heap.size <= b)) (fun i _ => n1 - (intOf i).toNat)
 case atStart => exact ⟨0, _, [], Nat.zero_le _, rfl, Fr.refl _ _ _, GO.out, nil_mine _, by simp⟩
 obtain ⟨j, v1, fp1, hj, rfl, fr, xo, hm, hfp⟩ := hrel
 have hs2 := fr.size
 have xm := fr.box GM.out (by omega) (by omega)
 have hb := GB.out.trans (fr.below (M := w.heap.size) (by omega) (by omega))
 clear q0 q1 q2 q3
 obtain ⟨q0, q1, q2, q3⟩ := xm.cells4
 by_cases hjn : j < n1
 . rcases pairs_at rfl h1 with h0' | ⟨b, off, rfl, hbl, hcs⟩
   . omega
   have hdj : cs[j]? = some (cs[j]'(by omega)) := List.getElem?_eq_getElem (by omega)
   have htk : cs.take (j + 1) = cs.take j ++ [cs[j]'(by omega)] := List.take_succ_eq_append_getElem (by omega)
   generalize cs[j]'(by omega) = x at hdj htk
   have hil := inner_le' hdj
   obtain ⟨u0, u1, hv0, hv1, hrv⟩ := hcs j x hdj
   obtain ⟨rfl, hrv'⟩ := wr_rd hrv
   obtain ⟨av, cv, rfl⟩ := row_shape hrv'
   have pv0 := (hb.cell (p := ⟨b, off + j * 2, none⟩) hbl).trans hv0
   have pv1 := (hb.cell (p := ⟨b, off + j * 2 + 1, none⟩) hbl).trans hv1
   obtain ⟨x0, x1⟩ := x
   simp only at pv0 pv1 hrv' hil
   have HX := hidden (hrv'.below hb)
   have k1 : (0 : Int) <= (j : Int) := by omega
   have k2 : (j : Int) < (n1 : Int) := by omega
   have HTK := hidden htk
   have XO := hidden xo
   have XMR := hidden xm
   have FRR := hidden fr
   have HM := hidden hm
   have HFP := hidden hfp
   have HL : Hid ((cs.take j).length = j) := by unfold Hid; rw [List.length_take]; omega
   have L1 : Hid ((cs.take j).length + 1 <= maxLen) := by unfold Hid; rw [HL.out]; unfold maxLen; omega
   have L2 : Hid (((cs.take j).length + 1) * 32 <= 140737488355328) := by unfold Hid; rw [HL.out]; omega
   have mk : Hid (∀ w', Box w' BO 51 #[v0, v1, .bool f, .slice a5 n3 c5] -> Box w' w.heap.size 51 #[.slice a0 n0 c0, .slice (some ⟨b, off, none⟩) n1 c1, .bool f, .slice a3 n3 c3] -> w'.heap[b]? = wr.heap[b]? -> w'.cell? ⟨BO, 1, none⟩ = some (v1) /\ w'.cell? ⟨w.heap.size, 1, none⟩ = some (.slice (some ⟨b, off, none⟩) n1 c1) /\ w'.cell? ⟨b, off + j * 2, none⟩ = some (.int .i64 x0) /\ w'.cell? ⟨b, off + j * 2 + 1, none⟩ = some (.slice av x1.length cv)) := fun w' e1 e2 e3 => ⟨e1.cell 1, e2.cell 1, (World.cell?_of_block e3).trans pv0, (World.cell?_of_block e3).trans pv1⟩
   have bA : Below wr.heap.size wr (wr.alloc (.cells #[] 3)) := (Below.refl _ _).alloc (Nat.le_refl _) _
   have hS : wr.drew.cell? ⟨BO, 1, none⟩ = some (v1) /\ wr.drew.cell? ⟨w.heap.size, 1, none⟩ = some (.slice (some ⟨b, off, none⟩) n1 c1) /\ wr.drew.cell? ⟨b, off + j * 2, none⟩ = some (.int .i64 x0) /\ wr.drew.cell? ⟨b, off + j * 2 + 1, none⟩ = some (.slice av x1.length cv) := mk.out wr.drew xo xm rfl
   have hS2 : (wr.alloc (.cells #[] 3)).drew.cell? ⟨BO, 1, none⟩ = some (v1) /\ (wr.alloc (.cells #[] 3)).drew.cell? ⟨w.heap.size, 1, none⟩ = some (.slice (some ⟨b, off, none⟩) n1 c1) /\ (wr.alloc (.cells #[] 3)).drew.cell? ⟨b, off + j * 2, none⟩ = some (.int .i64 x0) /\ (wr.alloc (.cells #[] 3)).drew.cell? ⟨b, off + j * 2 + 1, none⟩ = some (.slice av x1.length cv) := mk.out (wr.alloc (.cells #[] 3)).drew (xo.alloc _) (xm.alloc _) (bA.block b (by omega))
   have HG : Hid ((wr.alloc (.cells #[] 3)).drew.heap[wr.heap.size]? = some (.cells #[] 3 (0, 0))) := Box.new wr 3 #[]
   have RD : Hid (tIntS.Rd (wr.alloc (.cells #[] 3)).drew [.slice av x1.length cv] x1) := (HX.out.below bA).drew
   have BA := hidden bA
   clear hcs hdj hv0 hv1 hrv hrv' htk xo xm hm hfp hb fr pv0 pv1 bA
   go_wp2_with fail
   refine Upto.start (S := fun w' => w'.cell? ⟨BO, 1, none⟩ = some (v1) /\ w'.cell? ⟨w.heap.size, 1, none⟩ = some (.slice (some ⟨b, off, none⟩) n1 c1) /\ w'.cell? ⟨b, off + j * 2, none⟩ = some (.int .i64 x0) /\ w'.cell? ⟨b, off + j * 2 + 1, none⟩ = some (.slice av x1.length cv)) (k := 20) (by kernel_rfl) ?_
   refine Upto.t 0 hS ?_
   refine Upto.t 1 hS ?_
   refine Upto.t 2 hS ?_
   refine Upto.t 3 hS ?_
   refine Upto.t 4 hS ?_
   refine Upto.t 5 hS ?_
   refine Upto.t 6 hS ?_
   refine Upto.t 7 hS ?_
   refine Upto.t 9 hS ?_
   refine Upto.t 10 hS ?_
   refine Upto.t 11 hS ?_
   refine Upto.t 12 hS ?_
   refine Upto.t 13 hS ?_
   refine Upto.t 14 hS ?_
   refine Upto.one (i := 8) (by kernel_rfl) rfl (fun K hK => ?_)
   go_simp
   refine hK.out _ _ (fun _ => hS2) ?_
   clear hK K
   refine Upto.one (i := 15) (by kernel_rfl) rfl (fun K hK => ?_)
   refine step_copy (by rfl) _ _ 49 (by rfl) i3 Tryz.underlying49 hi3 hx0 hx1 hx2 wr.heap.size (by rfl) HG.out av x1.length cv x1 (by rfl) RD.out (by omega) ?_
   intro ac cc wc fpx mx rx tx
   have tx' : Turned [wr.heap.size] (wr.alloc (.cells #[] 3)) wc := Turned.undrew tx
   have zA : (wr.alloc (.cells #[] 3)).heap.size = wr.heap.size + 1 := by simp
   have zd : (wr.alloc (.cells #[] 3)).drew.heap.size = (wr.alloc (.cells #[] 3)).heap.size := rfl
   have hbc' : Below wr.heap.size wr wc := BA.out.trans (tx'.below (N := wr.heap.size) (by omega) (by simp))
   have xoc : Box wc BO 51 _ := XO.out.below hbc' (by omega)
   have xmc : Box wc w.heap.size 51 _ := XMR.out.below hbc' (by omega)
   have hS3 : wc.cell? ⟨BO, 1, none⟩ = some (v1) /\ wc.cell? ⟨w.heap.size, 1, none⟩ = some (.slice (some ⟨b, off, none⟩) n1 c1) /\ wc.cell? ⟨b, off + j * 2, none⟩ = some (.int .i64 x0) /\ wc.cell? ⟨b, off + j * 2 + 1, none⟩ = some (.slice av x1.length cv) := mk.out wc xoc xmc (hbc'.block b (by omega))
   have bB : Below wc.heap.size wc (wc.alloc (.cells #[.int .i64 x0, .slice ac x1.length cc] 109)) := (Below.refl _ _).alloc (Nat.le_refl _) _
   have zc := hbc'.size
   have hS4 : (wc.alloc (.cells #[.int .i64 x0, .slice ac x1.length cc] 109)).cell? ⟨BO, 1, none⟩ = some (v1) /\ (wc.alloc (.cells #[.int .i64 x0, .slice ac x1.length cc] 109)).cell? ⟨w.heap.size, 1, none⟩ = some (.slice (some ⟨b, off, none⟩) n1 c1) /\ (wc.alloc (.cells #[.int .i64 x0, .slice ac x1.length cc] 109)).cell? ⟨b, off + j * 2, none⟩ = some (.int .i64 x0) /\ (wc.alloc (.cells #[.int .i64 x0, .slice ac x1.length cc] 109)).cell? ⟨b, off + j * 2 + 1, none⟩ = some (.slice av x1.length cv) := mk.out _ (xoc.alloc _) (xmc.alloc _) ((bB.block b (by omega)).trans (hbc'.block b (by omega)))
   have RX : Hid (∀ b ∈ fpx, wr.heap.size <= b /\ b < wc.heap.size) := fun b hb => by have := rx b hb; omega
   have XOC := hidden xoc
   have XMC := hidden xmc
   have MX := hidden mx
   have HBC := hidden hbc'
   have BB := hidden (Below.andThen hbc' bB)
   clear xoc xmc mx rx tx tx' hbc' bB zA zd
   refine hK.out _ _ (fun _ => hS3) ?_
   clear hK K
   simp only [Act.put, List.setIfInBounds_toArray, List.set_cons_zero, List.set_cons_succ]
   refine Upto.t 16 hS3 ?_
   refine Upto.one (i := 17) (by kernel_rfl) rfl (fun K hK => ?_)
   go_simp
   refine hK.out _ _ (fun _ => hS4) ?_
   clear hK K
   refine Upto.one (i := 18) (by kernel_rfl) rfl (fun K hK => ?_)
   refine step_appT tWr (by rfl) _ _ 48 (by rfl) 109 i1 (.agg #[.int .i64 0, .slice none 0 0]) 32 Tryz.underlying48 hi1 hy0 hy1 hy2 rfl Nat.zero_lt_two v1 (cs.take j) fp1 (by rfl) ?_ ⟨wc.heap.size, 0, none⟩ 1 [.int .i64 x0, .slice ac x1.length cc] (x0, x1) fpx (by rfl) ?_ ?_ ?_ ?_ L1.out L2.out ?_
   . exact (HM.out.below HBC.out).alloc _
   . exact (wr_mine x0 MX.out).alloc _
   . intro b hb hb'
     have h1 := HM.out.lt b hb
     have h2 := RX.out b hb'
     omega
   . exact news_new _ _ _
   . intro u hu
     simp at hu
     rcases hu with hu | hu <;> (rw [hu]; rfl)
   intro g cap wA fpA m1 m2 m3
   rw [HL.out] at m1 ⊢
   rw [← HTK.out] at m1
   have ya : Box wA BO 51 _ := (XOC.out.alloc _).turned m3 (fun hm => by have := HFP.out _ hm; omega)
   have ym : Box wA w.heap.size 51 _ := (XMC.out.alloc _).turned m3 (fun hm => by have := HFP.out _ hm; omega)
   have zB : (wc.alloc (.cells #[.int .i64 x0, .slice ac x1.length cc] 109)).heap.size = wc.heap.size + 1 := by simp
   have hS5 : wA.cell? ⟨BO, 1, none⟩ = some (v1) /\ wA.cell? ⟨w.heap.size, 1, none⟩ = some (.slice (some ⟨b, off, none⟩) n1 c1) /\ wA.cell? ⟨b, off + j * 2, none⟩ = some (.int .i64 x0) /\ wA.cell? ⟨b, off + j * 2 + 1, none⟩ = some (.slice av x1.length cv) := mk.out wA ya ym ((m3.block b (by omega) (fun hm => by have := HFP.out _ hm; omega)).trans (BB.out.block b (by omega)))
   have r0 := hS5.1
   have fz := ya.frozen 1
   have YA := hidden ya
   have M1 := hidden m1
   have M2 := hidden m2
   have M3 := hidden m3
   clear ya ym m1 m2 m3 zB
   refine hK.out _ _ (fun _ => hS5) ?_
   clear hK K
   simp only [Act.put, List.setIfInBounds_toArray, List.set_cons_zero, List.set_cons_succ]
   refine Upto.t 19 hS5 ?_
   refine Upto.one (i := 20) (by kernel_rfl) rfl (fun K hK => ?_)
   go_simp
   refine hK.out _ _ (fun h => absurd rfl h) ?_
   clear hK K
   refine Upto.done (by kernel_rfl) ?_ _
   have hfA := round_fp (N := w7.heap.size) hs2 HBC.out HFP.out RX.out M2.out
   have frA := Fr.round FRR.out hs2 HBC.out _ M3.out HFP.out 1 (.slice (some ⟨g, 0, none⟩) (j + 1) cap)
   have mA := M1.out.setCell (g := BO) (j := 1) (fun hm => by have := hfA _ hm; omega) (.slice (some ⟨g, 0, none⟩) (j + 1) cap)
   have yA := YA.out.set 1 (.slice (some ⟨g, 0, none⟩) (j + 1) cap)
   have HFA := hidden hfA
   have FRA := hidden frA
   have MA := hidden mA
   have YA' := hidden yA
   clear hfA frA mA yA hS hS2 hS3 hS4 hS5 r0 YA M1 M2 M3 XOC MX RX HBC HFP HM FRR XO XMR XMC BA BB mk HG RD HX
   go_wp2
   go_roundw
   case rel => exact ⟨j + 1, _, fpA, by omega, by go_num, FRA.out, YA'.out, MA.out, HFA.out⟩
   case measure => simp [intOf]; omega
 have e : n1 = j := by omega
 subst e
 rw [List.take_of_length_le (by omega)] at hm
 have hlt := hm.lt
 have xr := fr.box GR.out (by omega) (by omega)
 obtain ⟨p0, p1, p2, p3⟩ := xr.cells4
 have fz := xr.frozen
 obtain ⟨r0, r1, r2, r3⟩ := xo.cells4
 have K3 := fr.mine G3.out (fun b hb => by have := fs3 b hb; omega)
 have K0 := fr.own G0.out (by omega) (by omega)
 have K1 := hm.own (lo := w7.heap.size) (hi := wr.heap.size) (fun b hb => ⟨hfp b hb, hlt b hb⟩)
 have KB := GB.out.trans (fr.below (M := w.heap.size) (by omega) (by omega))
 obtain ⟨e0, g0, hv0⟩ := row_shape K0.rd
 obtain ⟨e1, g1, hv1⟩ := row_shape K1.rd
 rw [hl0] at hv0
 rw [hl1] at hv1
 subst hv0 hv1
 have hbt : But (w.heap.size + 1) (w.heap.size + 2) wr ((((wr.setCell ⟨w.heap.size + 1, 0, none⟩ (.slice e0 n0 g0)).setCell ⟨w.heap.size + 1, 1, none⟩ (.slice e1 n1 g1)).setCell ⟨w.heap.size + 1, 2, none⟩ (.bool f)).setCell ⟨w.heap.size + 1, 3, none⟩ (.slice a5 n3 c5)) :=
  (((But.setCell (by omega) (by omega) _).trans (But.setCell (by omega) (by omega) _)).trans (But.setCell (by omega) (by omega) _)).trans (But.setCell (by omega) (by omega) _)
 have H3 := hidden ((K3.but hbt (fun b hb => by have := fs3 b hb; omega)).own (lo := w.heap.size) (hi := w6.heap.size) (fun b hb => by have := fs3 b hb; omega))
 have H0 := hidden (K0.but hbt (by omega))
 have H1 := hidden (K1.but hbt (by omega))
 have HB := hidden (Below.andBut KB hbt (by omega))
 have hsz := hbt.size
 clear fr xo xm hb hm hfp hlt xr K3 K0 K1 KB hbt GM GR GB G3 G0 GO
 go_wp2
 refine bodyPost_ret (v := .agg #[.slice e0 n0 g0, .slice e1 n1 g1, .bool f, .slice a5 n3 c5]) (by simp [results, Tryz.results59, go_sem, p0, p1, p2, p3]) rfl ?_
 exact ⟨_, _, _, w6.heap.size, w7.heap.size, rfl, H3.out, H0.out, H1.out.widen (Nat.le_refl _) hsz, by omega, by omega, by omega, HB.out⟩

theorem copy_shapes {w w' : World} {e : Ending} {n0 n1 n3 : Nat} {ss : List (List Int)} {cs : List (Int × List Int)} {f : Bool} {bs : List Int} (hl0 : ss.length = n0) (hl1 : cs.length = n1) (hl3 : bs.length = n3)
 (h : ∃ v0 v1 v3 m1 m2, e = .returned (.agg #[v0, v1, .bool f, v3]) /\ tIntS.Own w' w.heap.size m1 [v3] bs /\ tIntSS.Own w' m1 m2 [v0] ss /\ (tWrS 109).Own w' m2 w'.heap.size [v1] cs /\ m1 <= m2 /\ w.heap.size <= m1 /\ m2 <= w'.heap.size /\ Below w.heap.size w w') :
 ∃ b0 b1 b3 e0 e1 e3 m1 m2, e = .returned (.agg #[.slice b0 n0 e0, .slice b1 n1 e1, .bool f, .slice b3 n3 e3]) /\ tIntS.Own w' w.heap.size m1 [.slice b3 n3 e3] bs /\ tIntSS.Own w' m1 m2 [.slice b0 n0 e0] ss /\ (tWrS 109).Own w' m2 w'.heap.size [.slice b1 n1 e1] cs /\ m1 <= m2 /\ w.heap.size <= m1 /\ m2 <= w'.heap.size /\ Below w.heap.size w w' := by
 obtain ⟨v0, v1, v3, m1, m2, rfl, o3, o0, o1, r⟩ := h
 obtain ⟨b0, e0, hv0⟩ := row_shape o0.rd
 obtain ⟨b1, e1, hv1⟩ := row_shape o1.rd
 obtain ⟨b3, e3, hv3⟩ := row_shape o3.rd
 rw [hl0] at hv0
 rw [hl1] at hv1
 rw [hl3] at hv3
 subst hv0 hv1 hv3
 exact ⟨b0, b1, b3, e0, e1, e3, m1, m2, rfl, o3, o0, o1, r⟩

end Go.Proofs.YtechckninoilhaaGreat

namespace Go.Proofs.YtechckninoilhaaGreat
open Go.RowKit Go.Maps

def heldV (v : Value) : Option (DataW Value × List MemPlace) := some (.held v, [])
def lastW (l : List (Int × List Int)) (q : Int) : Option (List Int) := l.foldl (fun acc x => if x.1 = q then some x.2 else acc) none
theorem lastW_snoc (l : List (Int × List Int)) (x : Int × List Int) (q : Int) : lastW (l ++ [x]) q = if x.1 = q then some x.2 else lastW l q := by
 unfold lastW
 rw [List.foldl_append]
 rfl

def LastOk (w : World) (l : List (Int × List Int)) (D : DataW Value) : Prop :=
 ∀ q : Int, (lastW l q = none -> Maps.has D (.int .i64 q) = false) /\ ∀ zs, lastW l q = some zs -> Maps.has D (.int .i64 q) = true /\ ∃ a n cap, (∀ z, D.atKey (.int .i64 q) z = .held (.agg #[.int .i64 q, .slice a n cap])) /\ tIntS.Rd w [.slice a n cap] zs

theorem LastOk.nil (w : World) : LastOk w [] (.map []) := fun q => ⟨fun _ => rfl, fun zs h => by simp [lastW] at h⟩
theorem LastOk.step {w : World} {l : List (Int × List Int)} {D : DataW Value} (h : LastOk w l D) (hD : IsMap D) (x0 : Int) (x1 : List Int) (a : Option Addr) (n cap : Nat) (hr : tIntS.Rd w [.slice a n cap] x1) :
 LastOk w (l ++ [(x0, x1)]) (D.put (.int .i64 x0) (.held (.agg #[.int .i64 x0, .slice a n cap]))) := by
 intro q
 rw [lastW_snoc]
 by_cases hq : x0 = q
 . subst hq
   simp only [if_true]
   refine ⟨fun e => by simp at e, fun zs e => ?_⟩
   simp at e
   subst e
   have hk : WideAt.IsKeyLit (.int .i64 x0) := trivial
   exact ⟨has_put_same hD hk _, a, n, cap, fun z => atKey_put_same hD hk _ _, hr⟩
 simp only [hq, if_false]
 have hne : (Lit.int .i64 q) ≠ Lit.int .i64 x0 := fun e => by simp at e; exact hq e.symm
 refine ⟨fun e => ?_, fun zs e => ?_⟩
 . rw [has_put_other hne]
   exact (h q).1 e
 obtain ⟨h1, a', n', c', h2, h3⟩ := (h q).2 zs e
 exact ⟨by rw [has_put_other hne]; exact h1, a', n', c', fun z => by rw [atKey_put_other hne]; exact h2 z, h3⟩

theorem lawInt : Keyed Tryz.prog 3 := int_keyed Tryz.underlying3

theorem newest_at (w0 w : World) (hb0 : Below w0.heap.size w0 w) (E : TypeId) (a : Option Addr) (n cap : Nat) (d : List (Int × List Int)) (h : (tWrS E).Rd w0 [.slice a n cap] d) (hn : n <= 2097152) (hd : ∀ x ∈ d, 0 <= x.1 /\ x.1 <= 20) :
 Calls Tryz.prog 178 #[.slice a n cap] w fun e w' => e = .returned (.map (some w.heap.size)) /\ Below w.heap.size w w' /\ ∃ D, w'.ownsMap Tryz.prog 3 heldV w.heap.size n D /\ LastOk w0 d D := by
 obtain ⟨hl, hc, hm⟩ := row_length h
 have hmm := @run_makeMap Tryz.prog
 go_enter Tryz.func178, Tryz.ntmps178
 go_wp2
 clear hmm
 go_loopw [9] (fun i wr => ∃ j : Nat, j <= n /\ i = .int .i64 j /\ Below w.heap.size w wr /\ ∃ D, wr.ownsMap Tryz.prog 3 heldV w.heap.size j D /\ LastOk w0 (d.take j) D) (fun i _ => n - (intOf i).toNat)
 case atStart => exact ⟨0, Nat.zero_le _, rfl, (Below.refl _ _).alloc (Nat.le_refl _) _, _, World.ownsMap_made _ _ _ _, LastOk.nil _⟩
 obtain ⟨j, hj, rfl, hb, D, ho, hL⟩ := hrel
 by_cases hjn : j < n
 . rcases pairs_at rfl h with h0' | ⟨b, off, rfl, hbl, hcs⟩
   . omega
   have hdj : d[j]? = some (d[j]'(by omega)) := List.getElem?_eq_getElem (by omega)
   have hmem : d[j]'(by omega) ∈ d := List.getElem_mem _
   have htk : d.take (j + 1) = d.take j ++ [d[j]'(by omega)] := List.take_succ_eq_append_getElem (by omega)
   generalize d[j]'(by omega) = x at hdj hmem htk
   have hx := hd x hmem
   obtain ⟨v0, v1, hv0, hv1, hrv⟩ := hcs j x hdj
   obtain ⟨rfl, hrv'⟩ := wr_rd hrv
   obtain ⟨av, cv, rfl⟩ := row_shape hrv'
   have hbr := hb0.trans (hb.mono hb0.size)
   have p0 := (hbr.cell (p := ⟨b, off + j * 2, none⟩) hbl).trans hv0
   have p1 := (hbr.cell (p := ⟨b, off + j * 2 + 1, none⟩) hbl).trans hv1
   clear hbr
   obtain ⟨x0, x1⟩ := x
   simp only at p0 p1 hrv' hx
   have HL := hidden (hL.step ho.isMap x0 x1 av x1.length cv hrv')
   have HK := hidden (htk)
   have HO := hidden (ho.alloc (.cells #[.int .i64 x0, .slice av x1.length cv] 109))
   have hkey : keyOf Tryz.prog 3 (.int .i64 x0) = some (.int .i64 x0) := keyOf_int_mk Tryz.underlying3 (WalkArith.wf_i64 (by omega))
   have HKEY := hidden hkey
   have HB := hidden (hb.alloc hb.size (.cells #[.int .i64 x0, .slice av x1.length cv] 109))
   clear hcs hdj hv0 hv1 hrv hrv' hmem htk ho hL hkey
   go_wp2_with (at_mapUpdate; refine wpList_mapUpdate_own _ rfl _ _ _ 175 rfl 3 109 lawInt Tryz.underlying175 heldV w.heap.size j D rfl ?_ ?_ _ _ (.int .i64 x0) rfl rfl ?_ (.held (.agg #[.int .i64 x0, .slice av x1.length cv])) [] rfl ?_; exact HO.out; unfold maxLen; omega; exact HKEY.out; intro w1 hown1 hgrow1; have HO1 := hidden hown1; have HG1 := hidden hgrow1; clear hown1 hgrow1)
   have hB1 : Below w.heap.size w w1 := HB.out.grown HG1.out HB.out.size (fun k hk => by cases hk; exact Nat.le_refl _)
   clear HB HG1 HO hb
   go_roundw
   case rel => exact ⟨j + 1, by omega, by go_num, hB1, _, HO1.out, by rw [HK.out]; exact HL.out⟩
   case measure => simp [intOf]; omega
 have e : j = n := by omega
 subst e
 rw [List.take_of_length_le (by omega)] at hL
 go_wp2
 go_ret
 exact ⟨rfl, hb, D, ho, hL⟩

theorem newest_any (w : World) (E : TypeId) (a : Option Addr) (n cap : Nat) (d : List (Int × List Int)) (h : (tWrS E).Rd w [.slice a n cap] d) (hn : n <= 2097152) (hd : ∀ x ∈ d, 0 <= x.1 /\ x.1 <= 20) :
 Calls Tryz.prog 178 #[.slice a n cap] w fun e w' => e = .returned (.map (some w.heap.size)) /\ Below w.heap.size w w' /\ ∃ D, w'.ownsMap Tryz.prog 3 heldV w.heap.size n D /\ LastOk w d D := newest_at w w (Below.refl _ _) E a n cap d h hn hd

theorem key_int {q : Int} (h0 : 0 <= q) (h1 : q <= 2097152) : keyOf Tryz.prog 3 (.int .i64 q) = some (.int .i64 q) := keyOf_int_mk Tryz.underlying3 (WalkArith.wf_i64 (by omega))
theorem zeroWr (w : World) : (zeroValue 109).run Tryz.prog w = .ok (.agg #[.int .i64 0, .slice none 0 0]) w := by kernel_rfl

theorem look_some {w : World} {ops : Array Oper} {rest : List Oper} {o : Oper} {a : Act} {Q : Exit -> Act -> World -> Prop} (hg : o.guard = none) (m x : Operand) (hop : o.op = Op.lookup 175 m x true) (b n : Nat) (D : DataW Value) (w0 : World) (d : List (Int × List Int)) (q : Int) (zs : List Int)
 (hm : a.eval m = .map (some b)) (hown : w.ownsMap Tryz.prog 3 heldV b n D) (hx : a.eval x = .int .i64 q) (hkey : keyOf Tryz.prog 3 (.int .i64 q) = some (.int .i64 q)) (hL : LastOk w0 d D) (hs : lastW d q = some zs)
 (hK : ∀ a' c', tIntS.Rd w0 [.slice a' zs.length c'] zs -> wpList Tryz.prog ops Q rest (a.put o.dst (.tuple #[.agg #[.int .i64 q, .slice a' zs.length c'], .bool true])) w) : wpList Tryz.prog ops Q (o :: rest) a w := by
 obtain ⟨h1, a', n', c', h2, h3⟩ := (hL q).2 zs hs
 obtain ⟨hl, _, _⟩ := row_length h3
 subst hl
 refine wpList_lookup_own_ok w hg m x _ hop 3 109 lawInt Tryz.underlying175 heldV (zeroWr w) (.held (.agg #[.int .i64 0, .slice none 0 0])) [] rfl b n D hm hown _ _ hx hkey ?_
 intro v ps hv
 rw [h2] at hv
 have hv' : v = .agg #[.int .i64 q, .slice a' zs.length c'] := by simp [heldV] at hv; exact hv.1
 subst hv'
 rw [h1]
 exact hK a' c' h3

theorem look_none {w : World} {ops : Array Oper} {rest : List Oper} {o : Oper} {a : Act} {Q : Exit -> Act -> World -> Prop} (hg : o.guard = none) (m x : Operand) (hop : o.op = Op.lookup 175 m x true) (b n : Nat) (D : DataW Value) (w0 : World) (d : List (Int × List Int)) (q : Int)
 (hm : a.eval m = .map (some b)) (hown : w.ownsMap Tryz.prog 3 heldV b n D) (hx : a.eval x = .int .i64 q) (hkey : keyOf Tryz.prog 3 (.int .i64 q) = some (.int .i64 q)) (hL : LastOk w0 d D) (hs : lastW d q = none)
 (hK : wpList Tryz.prog ops Q rest (a.put o.dst (.tuple #[.agg #[.int .i64 0, .slice none 0 0], .bool false])) w) : wpList Tryz.prog ops Q (o :: rest) a w := by
 have h1 := (hL q).1 hs
 refine wpList_lookup_own_ok w hg m x _ hop 3 109 lawInt Tryz.underlying175 heldV (zeroWr w) (.held (.agg #[.int .i64 0, .slice none 0 0])) [] rfl b n D hm hown _ _ hx hkey ?_
 intro v ps hv
 rw [Maps.atKey_of_not_has h1] at hv
 have hv' : v = .agg #[.int .i64 0, .slice none 0 0] := by simp [heldV] at hv; exact hv.1
 subst hv'
 rw [h1]
 exact hK

end Go.Proofs.YtechckninoilhaaGreat

namespace Go.Proofs.YtechckninoilhaaGreat
open Go.RowKit

theorem mem_writes {ss : List (List Int)} {cs : List (Int × List Int)} {bs : List Int} (h : memB ss cs bs = true) : ∀ x ∈ cs, 0 <= x.1 /\ x.1 <= 20 := by
 unfold memB at h
 simp only [Bool.and_eq_true, List.all_eq_true] at h
 obtain ⟨_, h2, _, h4, _⟩ := h
 intro x hx
 have h5 := h2 x hx
 unfold wrB inB at h5
 unfold inB at h4
 simp at h4 h5
 omega
theorem mem_secs {ss : List (List Int)} {cs : List (Int × List Int)} {bs : List Int} (h : memB ss cs bs = true) : ss.length <= 20 := by
 unfold memB at h
 simp only [Bool.and_eq_true] at h
 obtain ⟨_, _, _, h4, _⟩ := h
 unfold inB at h4
 simp at h4
 omega

theorem lastW_aux (q : Int) (zs : List Int) : ∀ (l : List (Int × List Int)) (acc : Option (List Int)), l.foldl (fun acc x => if x.1 = q then some x.2 else acc) acc = some zs -> acc = some zs ∨ (q, zs) ∈ l
 | [], acc, h => .inl h
 | x :: l, acc, h => by
  rw [List.foldl_cons] at h
  rcases lastW_aux q zs l _ h with h1 | h1
  . by_cases hx : x.1 = q
    . rw [if_pos hx] at h1
      simp at h1
      right
      rw [← hx, ← h1]
      exact List.mem_cons_self
    rw [if_neg hx] at h1
    exact .inl h1
  exact .inr (List.mem_cons_of_mem _ h1)
theorem lastW_mem {l : List (Int × List Int)} {q : Int} {zs : List Int} (h : lastW l q = some zs) : (q, zs) ∈ l := by
 rcases lastW_aux q zs l none h with h1 | h1
 . simp at h1
 exact h1
theorem lastW_le {l : List (Int × List Int)} {q : Int} {zs : List Int} {N : Nat} (hw : wtWrS l <= N) (h : lastW l q = some zs) : zs.length <= N := by
 obtain ⟨j, hj⟩ := List.mem_iff_getElem?.1 (lastW_mem h)
 exact Nat.le_trans (inner_le' hj) hw

theorem mem_writes_lt {ss : List (List Int)} {cs : List (Int × List Int)} {bs : List Int} (h : memB ss cs bs = true) : ∀ x ∈ cs, ∃ q : Nat, x.1 = (q : Int) /\ q < ss.length := by
 unfold memB at h
 simp only [Bool.and_eq_true, List.all_eq_true] at h
 obtain ⟨_, h2, _⟩ := h
 intro x hx
 have h5 := h2 x hx
 unfold wrB inB at h5
 simp at h5
 exact ⟨x.1.toNat, by omega, by omega⟩
theorem mem_some {ss : List (List Int)} {cs : List (Int × List Int)} {bs : List Int} (h : memB ss cs bs = true) : 0 < ss.length := by
 unfold memB at h
 simp only [Bool.and_eq_true] at h
 obtain ⟨_, _, _, h4, _⟩ := h
 unfold inB at h4
 simp at h4
 omega
theorem mem_small {ss : List (List Int)} {cs : List (Int × List Int)} {bs : List Int} (h : memB ss cs bs = true) : (∀ x ∈ ss, x.length <= 12) /\ ∀ x ∈ cs, x.2.length <= 12 := by
 unfold memB at h
 simp only [Bool.and_eq_true, List.all_eq_true] at h
 obtain ⟨h1, h2, _⟩ := h
 refine ⟨fun x hx => ?_, fun x hx => ?_⟩
 . have := h1 x hx
   unfold secB at this
   simp at this
   omega
 have := h2 x hx
 unfold wrB secB at this
 simp at this
 omega

def flushD (ss : List (List Int)) (ks : List (Int × List Int)) : List (List Int) := (List.range ss.length).map fun (k : Nat) => (lastW ks (k : Int)).getD (ss.getD k [])
def partD (ss : List (List Int)) (ks : List (Int × List Int)) (j : Nat) : List (List Int) := (List.range ss.length).map fun (k : Nat) => if k < j then (lastW ks (k : Int)).getD (ss.getD k []) else ss.getD k []

theorem flushD_length (ss : List (List Int)) (ks : List (Int × List Int)) : (flushD ss ks).length = ss.length := by unfold flushD; simp
theorem partD_length (ss : List (List Int)) (ks : List (Int × List Int)) (j : Nat) : (partD ss ks j).length = ss.length := by unfold partD; simp
theorem flushD_get {ss : List (List Int)} {ks : List (Int × List Int)} {k : Nat} (h : k < ss.length) : (flushD ss ks)[k]? = some ((lastW ks (k : Int)).getD (ss.getD k [])) := by
 unfold flushD
 rw [List.getElem?_map, List.getElem?_range h]
 rfl
theorem partD_get {ss : List (List Int)} {ks : List (Int × List Int)} {j k : Nat} (h : k < ss.length) : (partD ss ks j)[k]? = some (if k < j then (lastW ks (k : Int)).getD (ss.getD k []) else ss.getD k []) := by
 unfold partD
 rw [List.getElem?_map, List.getElem?_range h]
 rfl
theorem list_ext_lt {α : Type} {l m : List α} {n : Nat} (hl : l.length = n) (hm : m.length = n) (h : ∀ k, k < n -> l[k]? = m[k]?) : l = m := by
 apply List.ext_getElem?
 intro k
 by_cases hk : k < n
 . exact h k hk
 rw [List.getElem?_eq_none (by omega), List.getElem?_eq_none (by omega)]
theorem getD_some {ss : List (List Int)} {k : Nat} (h : k < ss.length) : ss[k]? = some (ss.getD k []) := by
 rw [List.getD_eq_getElem?_getD, List.getElem?_eq_getElem h]
 rfl

theorem flushD_nil (ss : List (List Int)) : flushD ss [] = ss := by
 refine list_ext_lt (flushD_length _ _) rfl (fun k hk => ?_)
 rw [flushD_get hk, getD_some hk]
 rfl
theorem partD_zero (ss : List (List Int)) (ks : List (Int × List Int)) : partD ss ks 0 = ss := by
 refine list_ext_lt (partD_length _ _ _) rfl (fun k hk => ?_)
 rw [partD_get hk, getD_some hk, if_neg (by omega)]
theorem partD_all {ss : List (List Int)} {ks : List (Int × List Int)} {j : Nat} (h : ∀ k : Nat, j <= k -> k < ss.length -> lastW ks (k : Int) = none) : partD ss ks j = flushD ss ks := by
 refine list_ext_lt (partD_length _ _ _) (flushD_length _ _) (fun k hk => ?_)
 rw [partD_get hk, flushD_get hk]
 by_cases hj : k < j
 . rw [if_pos hj]
 rw [if_neg hj, h k (by omega) hk]
 rfl
theorem partD_some {ss : List (List Int)} {ks : List (Int × List Int)} {j : Nat} {zs : List Int} (hj : j < ss.length) (h : lastW ks (j : Int) = some zs) : partD ss ks (j + 1) = (partD ss ks j).set j zs := by
 refine list_ext_lt (partD_length _ _ _) (by rw [List.length_set]; exact partD_length _ _ _) (fun k hk => ?_)
 rw [partD_get hk]
 by_cases hkj : k = j
 . subst hkj
   rw [if_pos (by omega), h, List.getElem?_set_self (by rw [partD_length]; exact hk)]
   rfl
 rw [List.getElem?_set_ne (fun e => hkj e.symm), partD_get hk]
 by_cases hl : k < j
 . rw [if_pos hl, if_pos (by omega)]
 rw [if_neg hl, if_neg (by omega)]
theorem partD_none {ss : List (List Int)} {ks : List (Int × List Int)} {j : Nat} (h : lastW ks (j : Int) = none) : partD ss ks (j + 1) = partD ss ks j := by
 refine list_ext_lt (partD_length _ _ _) (partD_length _ _ _) (fun k hk => ?_)
 rw [partD_get hk, partD_get hk]
 by_cases hkj : k = j
 . subst hkj
   rw [if_pos (by omega), if_neg (by omega), h]
   rfl
 by_cases hl : k < j
 . rw [if_pos hl, if_pos (by omega)]
 rw [if_neg hl, if_neg (by omega)]
theorem flushD_snoc {ss : List (List Int)} {ks : List (Int × List Int)} {q : Nat} {zs : List Int} (hq : q < ss.length) : flushD ss (ks ++ [((q : Int), zs)]) = (flushD ss ks).set q zs := by
 refine list_ext_lt (flushD_length _ _) (by rw [List.length_set]; exact flushD_length _ _) (fun k hk => ?_)
 rw [flushD_get hk, lastW_snoc]
 by_cases hkq : k = q
 . subst hkq
   rw [if_pos rfl, List.getElem?_set_self (by rw [flushD_length]; exact hk)]
   rfl
 rw [if_neg (by simp; omega), List.getElem?_set_ne (fun e => hkq e.symm), flushD_get hk]

theorem sumL_bound : ∀ (l : List Nat) (m : Nat), (∀ x ∈ l, x <= m) -> sumL l <= m * l.length
 | [], m, _ => by simp [sumL]
 | x :: l, m, h => by
  have h1 := sumL_bound l m (fun y hy => h y (List.mem_cons_of_mem _ hy))
  have h2 := h x List.mem_cons_self
  have h3 : sumL (x :: l) = x + sumL l := by simp [sumL]
  rw [h3, List.length_cons, Nat.mul_succ]
  omega

end Go.Proofs.YtechckninoilhaaGreat

namespace Go.Proofs.YtechckninoilhaaGreat
open Go.RowKit Go.Maps

def RestOk (w : World) (ks : List (Int × List Int)) (j : Nat) (D : DataW Value) : Prop :=
 ∀ q : Nat, j <= q -> (lastW ks (q : Int) = none -> Maps.has D (.int .i64 q) = false) /\ ∀ zs, lastW ks (q : Int) = some zs -> Maps.has D (.int .i64 q) = true /\ ∃ a cap, (∀ z, D.atKey (.int .i64 q) z = .held (.agg #[.int .i64 q, .slice a zs.length cap])) /\ tIntS.Rd w [.slice a zs.length cap] zs
theorem LastOk.rest {w : World} {ks : List (Int × List Int)} {D : DataW Value} (h : LastOk w ks D) : RestOk w ks 0 D := fun q _ => ⟨(h q).1, fun zs hz => by
 obtain ⟨h1, a, n, cap, h2, h3⟩ := (h q).2 zs hz
 obtain ⟨hl, _, _⟩ := row_length h3
 subst hl
 exact ⟨h1, a, cap, h2, h3⟩⟩
theorem RestOk.next {w : World} {ks : List (Int × List Int)} {j : Nat} {D : DataW Value} (h : RestOk w ks j D) : RestOk w ks (j + 1) D := fun q hq => h q (by omega)
theorem RestOk.del {w : World} {ks : List (Int × List Int)} {j : Nat} {D : DataW Value} (h : RestOk w ks j D) : RestOk w ks (j + 1) (D.del (.int .i64 j)) := by
 intro q hq
 have hne : (Lit.int .i64 (q : Int)) ≠ Lit.int .i64 (j : Int) := fun e => by simp at e; omega
 obtain ⟨h1, h2⟩ := h q (by omega)
 refine ⟨fun e => by rw [has_del_other hne]; exact h1 e, fun zs e => ?_⟩
 obtain ⟨h3, a, cap, h4, h5⟩ := h2 zs e
 exact ⟨by rw [has_del_other hne]; exact h3, a, cap, fun z => by rw [atKey_del_other hne]; exact h4 z, h5⟩
theorem RestOk.empty {w : World} {ks : List (Int × List Int)} {j : Nat} {D : DataW Value} (h : RestOk w ks j D) (hD : IsMap D) (hz : Maps.size D = 0) : ∀ q : Nat, j <= q -> lastW ks (q : Int) = none := by
 intro q hq
 cases hl : lastW ks (q : Int) with
 | none => rfl
 | some zs =>
  have h1 := ((h q hq).2 zs hl).1
  obtain ⟨es, rfl⟩ := hD
  have h2 : es = [] := List.eq_nil_of_length_eq_zero hz
  subst h2
  simp [Maps.has] at h1
theorem look_here {w : World} {ops : Array Oper} {rest : List Oper} {o : Oper} {a : Act} {Q : Exit -> Act -> World -> Prop} (hg : o.guard = none) (m x : Operand) (hop : o.op = Op.lookup 175 m x true) (b n : Nat) (D : DataW Value) (q : Int) (v : Value)
 (hm : a.eval m = .map (some b)) (hown : w.ownsMap Tryz.prog 3 heldV b n D) (hx : a.eval x = .int .i64 q) (hkey : keyOf Tryz.prog 3 (.int .i64 q) = some (.int .i64 q)) (h1 : Maps.has D (.int .i64 q) = true) (h2 : ∀ z, D.atKey (.int .i64 q) z = .held v)
 (hK : wpList Tryz.prog ops Q rest (a.put o.dst (.tuple #[v, .bool true])) w) : wpList Tryz.prog ops Q (o :: rest) a w := by
 refine wpList_lookup_own_ok w hg m x _ hop 3 109 lawInt Tryz.underlying175 heldV (zeroWr w) (.held (.agg #[.int .i64 0, .slice none 0 0])) [] rfl b n D hm hown _ _ hx hkey ?_
 intro v' ps hv
 rw [h2] at hv
 have hv' : v' = v := by simp [heldV] at hv; exact hv.1
 subst hv'
 rw [h1]
 exact hK
theorem look_away {w : World} {ops : Array Oper} {rest : List Oper} {o : Oper} {a : Act} {Q : Exit -> Act -> World -> Prop} (hg : o.guard = none) (m x : Operand) (hop : o.op = Op.lookup 175 m x true) (b n : Nat) (D : DataW Value) (q : Int)
 (hm : a.eval m = .map (some b)) (hown : w.ownsMap Tryz.prog 3 heldV b n D) (hx : a.eval x = .int .i64 q) (hkey : keyOf Tryz.prog 3 (.int .i64 q) = some (.int .i64 q)) (h1 : Maps.has D (.int .i64 q) = false)
 (hK : wpList Tryz.prog ops Q rest (a.put o.dst (.tuple #[.agg #[.int .i64 0, .slice none 0 0], .bool false])) w) : wpList Tryz.prog ops Q (o :: rest) a w := by
 refine wpList_lookup_own_ok w hg m x _ hop 3 109 lawInt Tryz.underlying175 heldV (zeroWr w) (.held (.agg #[.int .i64 0, .slice none 0 0])) [] rfl b n D hm hown _ _ hx hkey ?_
 intro v ps hv
 rw [Maps.atKey_of_not_has h1] at hv
 have hv' : v = .agg #[.int .i64 0, .slice none 0 0] := by simp [heldV] at hv; exact hv.1
 subst hv'
 rw [h1]
 exact hK
theorem Below.grows {w w' : World} (h : Below w.heap.size w w') : w.grownBy w' none := ⟨h.os, h.tape, h.output, h.size, fun k hk _ => h.block k hk⟩

theorem settle_any (w : World) (E Ek : TypeId) (a0 a1 a3 ak : Option Addr) (n0 c0 n1 c1 n3 c3 nk ck : Nat) (ss : List (List Int)) (cs : List (Int × List Int)) (f : Bool) (bs : List Int) (h0 : tIntSS.Rd w [.slice a0 n0 c0] ss) (h1 : (tWrS E).Rd w [.slice a1 n1 c1] cs) (h3 : tIntS.Rd w [.slice a3 n3 c3] bs) (hw : wtMem (ss, cs, f, bs) <= 2097152) (ks : List (Int × List Int)) (hk : (tWrS Ek).Rd w [.slice ak nk ck] ks) (hwk : wtWrS ks <= 2097152) (hks : ∀ x ∈ ks, 0 <= x.1 /\ x.1 <= 20) (hn20 : n0 <= 20) :
 Calls Tryz.prog 177 #[.agg #[.slice a0 n0 c0, .slice a1 n1 c1, .bool f, .slice a3 n3 c3], .slice ak nk ck] w fun e w' => ∃ v0 v1 v3, e = .returned (.agg #[v0, v1, .bool f, v3]) /\ (tMem 109).Own w' w.heap.size w'.heap.size [v0, v1, .bool f, v3] (flushD ss ks, [], f, bs) /\ Below w.heap.size w w' := by
 obtain ⟨hl0, _, hm0⟩ := row_length h0
 obtain ⟨hl1, _, hm1⟩ := row_length h1
 obtain ⟨hl3, _, hm3⟩ := row_length h3
 have hA : Below w.heap.size w ((w.alloc (.cells #[.slice a0 n0 c0, .slice a1 n1 c1, .bool f, .slice a3 n3 c3] 51)).alloc (.cells #[.slice none 0 0, .slice none 0 0, .bool false, .slice none 0 0] 51)) := ((Below.refl _ _).alloc (Nat.le_refl _) _).alloc (by simp) _
 have xr : Box ((w.alloc (.cells #[.slice a0 n0 c0, .slice a1 n1 c1, .bool f, .slice a3 n3 c3] 51)).alloc (.cells #[.slice none 0 0, .slice none 0 0, .bool false, .slice none 0 0] 51)) (w.heap.size + 1) 51 #[.slice none 0 0, .slice none 0 0, .bool false, .slice none 0 0] := by
  have := Box.new (w.alloc (.cells #[.slice a0 n0 c0, .slice a1 n1 c1, .bool f, .slice a3 n3 c3] 51)) 51 #[.slice none 0 0, .slice none 0 0, .bool false, .slice none 0 0]
  rw [show (w.alloc (.cells #[.slice a0 n0 c0, .slice a1 n1 c1, .bool f, .slice a3 n3 c3] 51)).heap.size = w.heap.size + 1 by simp] at this
  exact this
 go_enter Tryz.func177, Tryz.ntmps177
 go_wp2_with fail
 generalize hW : (w.alloc (.cells #[.slice a0 n0 c0, .slice a1 n1 c1, .bool f, .slice a3 n3 c3] 51)).alloc (.cells #[.slice none 0 0, .slice none 0 0, .bool false, .slice none 0 0] 51) = W at hA xr ⊢
 clear hW
 have zr := xr.lt
 refine (copyMem_any _ E _ _ _ _ _ _ _ _ _ ss cs f bs (h0.below hA) (h1.below hA) (h3.below hA) hw).mono ?_
 intro e w1 hc
 obtain ⟨b0, b1, b3, e0, e1, e3, m1, m2, rfl, o3, o0, o1, r1, r2, r3, bb⟩ := copy_shapes hl0 hl1 hl3 hc
 clear hc
 have z1 := bb.size
 obtain ⟨hlk, _, hmk⟩ := row_length hk
 have hnk : nk <= 2097152 := by unfold wtWrS at hwk; omega
 have sW : w.heap.size + 2 <= W.heap.size := by omega
 have ba : Below w1.heap.size w1 (w1.alloc (.cells #[.slice b0 n0 e0, .slice none 0 0, .bool f, .slice b3 n3 e3] 51)) := (Below.refl _ _).alloc (Nat.le_refl _) _
 have yo := Box.new w1 51 #[.slice b0 n0 e0, .slice none 0 0, .bool f, .slice b3 n3 e3]
 have yr := (xr.below bb zr).below ba (by omega)
 have k0 := o0.below ba
 have k3 := o3.below ba
 have kb := hA.trans ((bb.mono (by omega : w.heap.size <= W.heap.size)).trans (ba.mono (by omega)))
 have zo := yo.lt
 clear o0 o1 o3
 have YO := hidden yo
 have YR := hidden yr
 have K0 := hidden k0
 have K3 := hidden k3
 have KB := hidden kb
 clear yo yr k0 k3 xr
 go_wp2_with fail
 generalize w1.alloc (.cells #[.slice b0 n0 e0, .slice none 0 0, .bool f, .slice b3 n3 e3] 51) = w2 at ba YO YR K0 K3 KB kb zo ⊢
 have z2 := ba.size
 refine (newest_at w w2 kb Ek ak nk ck ks hk hnk hks).mono ?_
 rintro e w3 ⟨rfl, b3', D, hown, hL⟩
 have z3 := b3'.size
 have XO := hidden (YO.out.below b3' (by omega))
 have XR := hidden (YR.out.below b3' (by omega))
 have L0 := hidden (K0.out.below b3')
 have L3 := hidden (K3.out.below b3')
 have LB := hidden (KB.out.trans (b3'.mono (by omega)))
 have HOW := hidden hown
 have HL := hidden hL
 clear YO YR K0 K3 KB kb b3' hown hL ba
 have hgs : ∃ gS, (n0 = 0 ∨ b0 = some ⟨gS, 0, none⟩) /\ m1 <= gS /\ gS < w3.heap.size /\ gS ≠ w1.heap.size := by
  rcases L0.out.rowShape with h | ⟨g, rfl⟩
  . exact ⟨w2.heap.size, .inl h, by omega, HOW.out.lt, by omega⟩
  obtain ⟨fq, mq, rq⟩ := L0.out.mine
  have hgm := (row_parts mq).1
  have := rq g hgm
  exact ⟨g, .inr rfl, by omega, by omega, by omega⟩
 obtain ⟨gS, hg0, hg1, hg2, hg3⟩ := hgs
 obtain ⟨fpS0, mS0, rS0⟩ := L0.out.mine
 have MS0 := hidden mS0
 have RS0 := hidden rS0
 clear mS0 rS0
 obtain ⟨x0, x1, x2, x3⟩ := XO.out.cells4
 go_wp2
 clear x0 x1 x2 x3
 have hB3 := HOW.out.lt
 go_loopw [7] (fun i wr => ∃ (j : Nat) (Dm : DataW Value) (fpS : List Nat), j <= n0 /\ i = .int .i64 j /\ Turned [gS, w2.heap.size] w3 wr /\ tIntSS.Mine wr [.slice b0 n0 e0] (partD ss ks j) fpS /\ (∀ b ∈ fpS, m1 <= b /\ (b < m2 ∨ w3.heap.size <= b)) /\ wr.ownsMap Tryz.prog 3 heldV w2.heap.size nk Dm /\ RestOk w ks j Dm) (fun i _ => n0 - (intOf i).toNat)
 case atStart => exact ⟨0, D, fpS0, Nat.zero_le _, rfl, Turned.refl _ _, by rw [partD_zero]; exact MS0.out, fun b hb => by have := RS0.out b hb; omega, HOW.out, HL.out.rest⟩
 obtain ⟨j, Dm, fpS, hj, rfl, tn, hS, hfp, how, hR⟩ := hrel
 have hs := tn.size
 have xo := XO.out.turned tn (by simp; omega)
 obtain ⟨q0, q1, q2, q3⟩ := xo.cells4
 have hlen := how.len Tryz.underlying175 3
 have hszn := how.size_le
 generalize hsz : Maps.size Dm = sz at hlen hszn
 have HSZ := hidden hsz
 clear hsz
 by_cases hjn : j < n0
 . have k1 : (0 : Int) <= (j : Int) := by omega
   have k2 : (j : Int) < (n0 : Int) := by omega
   by_cases hpos : 0 < sz
   . have k5 : (0 : Int) < (sz : Int) := by omega
     have HKEY := hidden (key_int (q := (j : Int)) (by omega) (by omega))
     have HOWR := hidden how
     have HRR := hidden hR
     have HFP := hidden hfp
     have HSS := hidden hS
     have TN := hidden tn
     have XOR := hidden xo
     clear how hR hfp hS tn xo
     cases hlw : lastW ks (j : Int) with
     | none =>
      have HN := hidden ((HRR.out j (Nat.le_refl _)).1 hlw)
      have HP := hidden (partD_none (ss := ss) hlw)
      have MA := hidden (HSS.out.alloc (.cells #[.int .i64 0, .slice none 0 0] 109))
      have TA := hidden (TN.out.alloc (.cells #[.int .i64 0, .slice none 0 0] 109))
      have OA := hidden (HOWR.out.alloc (.cells #[.int .i64 0, .slice none 0 0] 109))
      clear hlw
      go_wp2_with (at_lookup; refine look_away rfl _ _ rfl w2.heap.size nk Dm (j : Int) rfl HOWR.out rfl HKEY.out HN.out ?_)
      go_roundw
      case rel => exact ⟨j + 1, Dm, fpS, by omega, by go_num, TA.out, by rw [HP.out]; exact MA.out, HFP.out, OA.out, HRR.out.next⟩
      case measure => simp [intOf]; omega
     | some zs =>
      obtain ⟨hh1, la, lc, hh2, hh3⟩ := (HRR.out j (Nat.le_refl _)).2 zs hlw
      have H1 := hidden hh1
      have H2 := hidden hh2
      have HP := hidden (partD_some (ss := ss) (by omega) hlw)
      have hzl : zs.length <= 2097152 := lastW_le hwk hlw
      rcases hg0 with hg0 | hg0
      . omega
      subst hg0
      have bA : Below wr.heap.size wr (wr.alloc (.cells #[.int .i64 (j : Int), .slice la zs.length lc] 109)) := (Below.refl _ _).alloc (Nat.le_refl _) _
      have zA : wr.heap.size < (wr.alloc (.cells #[.int .i64 (j : Int), .slice la zs.length lc] 109)).heap.size := by simp
      have XW := hidden (Box.new wr 109 #[.int .i64 (j : Int), .slice la zs.length lc])
      have XOA := hidden (XOR.out.alloc (.cells #[.int .i64 (j : Int), .slice la zs.length lc] 109))
      have MA := hidden (HSS.out.alloc (.cells #[.int .i64 (j : Int), .slice la zs.length lc] 109))
      have TA := hidden (TN.out.alloc (.cells #[.int .i64 (j : Int), .slice la zs.length lc] 109))
      have OA := hidden (HOWR.out.alloc (.cells #[.int .i64 (j : Int), .slice la zs.length lc] 109))
      have RD := hidden (hh3.below (LB.out.trans ((TN.out.below (N := w.heap.size) (by omega) (by simp; omega)).trans (bA.mono (by omega)))))
      clear hlw hh1 hh2 hh3 bA
      go_wp2_with (at_lookup; refine look_here rfl _ _ rfl w2.heap.size nk Dm (j : Int) (.agg #[.int .i64 (j : Int), .slice la zs.length lc]) rfl HOWR.out rfl HKEY.out H1.out H2.out ?_)
      generalize wr.alloc (.cells #[.int .i64 (j : Int), .slice la zs.length lc] 109) = w8 at XW XOA MA TA OA RD zA ⊢
      have zT := TA.out.size
      have hSc : ∀ w', Box w' w1.heap.size 51 #[.slice (some ⟨gS, 0, none⟩) n0 e0, .slice none 0 0, .bool f, .slice b3 n3 e3] -> Box w' wr.heap.size 109 #[.int .i64 (j : Int), .slice la zs.length lc] -> w'.cell? ⟨w1.heap.size, 0, none⟩ = some (.slice (some ⟨gS, 0, none⟩) n0 e0) /\ w'.cell? ⟨wr.heap.size, 1, none⟩ = some (.slice la zs.length lc) := fun w' e1 e2 => ⟨e1.cell 0, e2.cell 1⟩
      have hSd : ∀ w', Box w' w1.heap.size 51 #[.slice (some ⟨gS, 0, none⟩) n0 e0, .slice none 0 0, .bool f, .slice b3 n3 e3] -> Box w' wr.heap.size 109 #[.int .i64 (j : Int), .slice la zs.length lc] -> w'.drew.cell? ⟨w1.heap.size, 0, none⟩ = some (.slice (some ⟨gS, 0, none⟩) n0 e0) /\ w'.drew.cell? ⟨wr.heap.size, 1, none⟩ = some (.slice la zs.length lc) := hSc
      have nO : Hid (w1.heap.size ≠ gS) := by unfold Hid; omega
      have nW : Hid (wr.heap.size ≠ gS) := by unfold Hid; omega
      go_region_held3 (fun w' => w'.cell? ⟨w1.heap.size, 0, none⟩ = some (.slice (some ⟨gS, 0, none⟩) n0 e0) /\ w'.cell? ⟨wr.heap.size, 1, none⟩ = some (.slice la zs.length lc))
       (first | (with_reducible exact hSd w8 XOA.out XW.out) | (with_reducible exact hSc wc XOC.out XWC.out) | (with_reducible exact hSc _ (XOC.out.other nO.out _ _) (XWC.out.other nW.out _ _)) | go_keep)
       (first
        | (go_at_call 68; refine (copyWords_any _ _ _ _ zs (by exact RD.out.drew) (by omega)).mono ?_; rintro e wc ⟨ac, cc, rfl, oc, hbc⟩; have hbc' : Below w8.heap.size w8 wc := (by exact (Below.refl w8.heap.size w8).drew.trans hbc); have XOC := hidden (XOA.out.below hbc' (by omega)); have XWC := hidden (XW.out.below hbc' (by omega)); have mc := MA.out.below hbc'; have hlt := MA.out.lt; obtain ⟨fpx, mx, rx⟩ := Ty.Own.mine (lo := w8.heap.size) oc; obtain ⟨⟨old, cOld⟩, fz, hgm, fpA, mA, rA⟩ := row_set1 (j := j) rfl mc hjn mx (fun b hb hb' => by have h1 := hlt b hb'; have h2 := rx b hb; omega); have MX := hidden mA; have RA := hidden rA; have RX := hidden rx; have HBC := hidden hbc'; have HGM := hidden hgm; clear mc hlt mx rx oc hbc hbc' mA rA hgm))
      have zc := HBC.out.size
      have OD := hidden ((OA.out.kept (Below.grows HBC.out) (by simp)).setCell (a := ⟨gS, j, none⟩) (by simp only; have h1 := HFP.out gS HGM.out; omega) (.slice ac zs.length cc))
      have hfA : ∀ b ∈ fpA, m1 <= b /\ (b < m2 ∨ w3.heap.size <= b) := fun b hb => by
       rcases RA.out b hb with h | h
       . exact HFP.out b h
       have := RX.out b h
       omega
      have TD := hidden ((TA.out.trans (Turned.ofBelow HBC.out _)).trans (Turned.setCell (w := wc) (g := gS) (j := j) (.slice ac zs.length cc) (List.mem_cons_self : gS ∈ [gS, w2.heap.size])))
      have HFA := hidden hfA
      clear hfA XOC XWC XOA XW nO nW hSc hSd RA RX HBC MA TA OA RD cOld fz H1 H2
      go_wp2_with (at_delete; refine wpList_delete_own _ rfl _ _ 175 3 rfl 109 lawInt Tryz.underlying175 heldV w2.heap.size nk Dm rfl OD.out _ _ rfl HKEY.out ?_; intro wD hownD hturnD; have HOD := hidden hownD; have HTD := hidden hturnD.grown; clear hownD hturnD)
      have tD : Turned [w2.heap.size] (wc.setCell ⟨gS, j, none⟩ (.slice ac zs.length cc)) wD := ⟨HTD.out.os, HTD.out.tape, HTD.out.output, HTD.out.size, fun k hk hf => HTD.out.block k hk (by simp at hf ⊢; exact hf)⟩
      have TF := hidden (TD.out.trans (tD.mono (fun b hb => List.mem_cons_of_mem _ hb)))
      have MF := hidden (MX.out.kept tD (fun b hb hb' => by have h1 := HFA.out b hb; simp at hb'; omega))
      clear tD TD MX HTD OD
      go_roundw
      case rel => exact ⟨j + 1, Dm.del (.int .i64 (j : Int)), fpA, by omega, by go_num, TF.out, by rw [HP.out]; exact MF.out, HFA.out, HOD.out, HRR.out.del⟩
      case measure => simp [intOf]; omega
   have HD : Hid (partD ss ks j = flushD ss ks) := partD_all (fun k hk hkl => hR.empty how.isMap (by have := HSZ.out; omega) k hk)
   have k5 : ¬ (0 : Int) < (sz : Int) := by omega
   have K0' := hS.own (lo := m1) (hi := wr.heap.size) (fun b hb => by have h1 := hfp b hb; have h2 := hS.lt b hb; omega)
   have xr := XR.out.turned tn (by simp; omega)
   obtain ⟨p0, p1, p2, p3⟩ := xr.cells4
   have fz := xr.frozen
   have K3' := L3.out.but (tn.but (lo := m1) (hi := w3.heap.size) (by simp; omega)) (.inl (Nat.le_refl _))
   have KB' := LB.out.trans (tn.below (N := w.heap.size) (by omega) (by simp; omega))
   have hbt : But (w.heap.size + 1) (w.heap.size + 2) wr ((((wr.setCell ⟨w.heap.size + 1, 0, none⟩ (.slice b0 n0 e0)).setCell ⟨w.heap.size + 1, 1, none⟩ (.slice none 0 0)).setCell ⟨w.heap.size + 1, 2, none⟩ (.bool f)).setCell ⟨w.heap.size + 1, 3, none⟩ (.slice b3 n3 e3)) :=
    (((But.setCell (by omega) (by omega) _).trans (But.setCell (by omega) (by omega) _)).trans (But.setCell (by omega) (by omega) _)).trans (But.setCell (by omega) (by omega) _)
   have z9 := hbt.size
   have FIN : Hid ((tMem 109).Own ((((wr.setCell ⟨w.heap.size + 1, 0, none⟩ (.slice b0 n0 e0)).setCell ⟨w.heap.size + 1, 1, none⟩ (.slice none 0 0)).setCell ⟨w.heap.size + 1, 2, none⟩ (.bool f)).setCell ⟨w.heap.size + 1, 3, none⟩ (.slice b3 n3 e3)) w.heap.size ((((wr.setCell ⟨w.heap.size + 1, 0, none⟩ (.slice b0 n0 e0)).setCell ⟨w.heap.size + 1, 1, none⟩ (.slice none 0 0)).setCell ⟨w.heap.size + 1, 2, none⟩ (.bool f)).setCell ⟨w.heap.size + 1, 3, none⟩ (.slice b3 n3 e3)).heap.size [.slice b0 n0 e0, .slice none 0 0, .bool f, .slice b3 n3 e3] (partD ss ks j, [], f, bs)) := (mem_own3 (K0'.but hbt (by omega)) (nil_own _ wr.heap.size wr.heap.size) (K3'.but hbt (by omega)) (by omega) (by omega) (by omega) (by omega) (by omega) (by omega))
   have FB := hidden (Below.andBut KB' hbt (by omega))
   clear K0' K3' KB' xr hS tn how hR hfp hbt xo
   go_wp2
   refine bodyPost_ret (v := .agg #[.slice b0 n0 e0, .slice none 0 0, .bool f, .slice b3 n3 e3]) (by simp [results, Tryz.results177, go_sem, p0, p1, p2, p3]) rfl ?_
   exact ⟨_, _, _, rfl, by rw [← HD.out]; exact FIN.out, FB.out⟩
 have e : n0 = j := by omega
 subst e
 have HD : Hid (partD ss ks n0 = flushD ss ks) := partD_all (fun k hk hkl => by omega)
 have K0' := hS.own (lo := m1) (hi := wr.heap.size) (fun b hb => by have h1 := hfp b hb; have h2 := hS.lt b hb; omega)
 have xr := XR.out.turned tn (by simp; omega)
 obtain ⟨p0, p1, p2, p3⟩ := xr.cells4
 have fz := xr.frozen
 have K3' := L3.out.but (tn.but (lo := m1) (hi := w3.heap.size) (by simp; omega)) (.inl (Nat.le_refl _))
 have KB' := LB.out.trans (tn.below (N := w.heap.size) (by omega) (by simp; omega))
 have hbt : But (w.heap.size + 1) (w.heap.size + 2) wr ((((wr.setCell ⟨w.heap.size + 1, 0, none⟩ (.slice b0 n0 e0)).setCell ⟨w.heap.size + 1, 1, none⟩ (.slice none 0 0)).setCell ⟨w.heap.size + 1, 2, none⟩ (.bool f)).setCell ⟨w.heap.size + 1, 3, none⟩ (.slice b3 n3 e3)) :=
  (((But.setCell (by omega) (by omega) _).trans (But.setCell (by omega) (by omega) _)).trans (But.setCell (by omega) (by omega) _)).trans (But.setCell (by omega) (by omega) _)
 have z9 := hbt.size
 have FIN : Hid ((tMem 109).Own ((((wr.setCell ⟨w.heap.size + 1, 0, none⟩ (.slice b0 n0 e0)).setCell ⟨w.heap.size + 1, 1, none⟩ (.slice none 0 0)).setCell ⟨w.heap.size + 1, 2, none⟩ (.bool f)).setCell ⟨w.heap.size + 1, 3, none⟩ (.slice b3 n3 e3)) w.heap.size ((((wr.setCell ⟨w.heap.size + 1, 0, none⟩ (.slice b0 n0 e0)).setCell ⟨w.heap.size + 1, 1, none⟩ (.slice none 0 0)).setCell ⟨w.heap.size + 1, 2, none⟩ (.bool f)).setCell ⟨w.heap.size + 1, 3, none⟩ (.slice b3 n3 e3)).heap.size [.slice b0 n0 e0, .slice none 0 0, .bool f, .slice b3 n3 e3] (partD ss ks n0, [], f, bs)) := (mem_own3 (K0'.but hbt (by omega)) (nil_own _ wr.heap.size wr.heap.size) (K3'.but hbt (by omega)) (by omega) (by omega) (by omega) (by omega) (by omega) (by omega))
 have FB := hidden (Below.andBut KB' hbt (by omega))
 clear K0' K3' KB' xr hS tn how hR hfp hbt xo
 go_wp2
 refine bodyPost_ret (v := .agg #[.slice b0 n0 e0, .slice none 0 0, .bool f, .slice b3 n3 e3]) (by simp [results, Tryz.results177, go_sem, p0, p1, p2, p3]) rfl ?_
 exact ⟨_, _, _, rfl, by rw [← HD.out]; exact FIN.out, FB.out⟩

end Go.Proofs.YtechckninoilhaaGreat

