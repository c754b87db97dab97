/-
 The walk of the specification's WriteSec: one write more in the cache, the sector no longer Bad, in memory of its own; else the disk as it was, and false. Condition: the disk and the sector weigh at most 2097152 each.
-/
import Derived.Test.YtianjijbmiebgaaGreatRowFlushAllAll5
import Derived.Test.YtianjijbmiebgaaGreatBox
import Derived.Maps.Own
import Derived.Maps.OwnSet
import Derived.Maps.OwnOps
import Derived.Maps.Views
import Derived.WideLaws
import Derived.Lib.SliceRun

set_option maxRecDepth 100000
set_option maxHeartbeats 8000000
set_option linter.unusedSimpArgs false

namespace Go.Proofs.YtianjijbmiebgaaGreat
open Go.RowKit

theorem l2Copy_any (w : World) (E : TypeId) (a0 a1 a3 : Option Addr) (n0 c0 n1 c1 n3 c3 : Nat) (ss : List (List Int)) (cs : List (Int × List Int)) (f : Bool) (bs : List Int) (h0 : tIntSS.Rd w [.slice a0 n0 c0] ss) (h1 : (tWrS E).Rd w [.slice a1 n1 c1] cs) (h3 : tIntS.Rd w [.slice a3 n3 c3] bs) (hw : wtMem (ss, cs, f, bs) <= 2097152) :
 Calls Tryz.prog 118 #[.agg #[.slice a0 n0 c0, .slice a1 n1 c1, .bool f, .slice a3 n3 c3]] w fun e w' => ∃ v0 v1 v3 m1 m2, e = .returned (.agg #[v0, v1, .bool f, v3]) /\ tIntS.Own w' w.heap.size m1 [v3] bs /\ tIntSS.Own w' m1 m2 [v0] ss /\ (tWrS 159).Own w' m2 w'.heap.size [v1] cs /\ m1 <= m2 /\ w.heap.size <= m1 /\ m2 <= w'.heap.size /\ Below w.heap.size w w' := by
 obtain ⟨hl0, _, hm0⟩ := row_length h0
 obtain ⟨hl1, _, hm1⟩ := row_length h1
 obtain ⟨hl3, _, hm3⟩ := row_length h3
 have hw0 : wtIntSS ss <= 2097152 := by unfold wtMem at hw; simp only at hw; omega
 have hw1 : wtWrS cs <= 2097152 := by unfold wtMem at hw; simp only at hw; omega
 have hw3 : n3 <= 2097152 := by unfold wtMem at hw; simp only at hw; omega
 have hn0 : n0 <= 2097152 := by unfold wtIntSS at hw0; omega
 have hn1 : n1 <= 2097152 := by unfold wtWrS at hw1; omega
 obtain ⟨i0, hi, hz0, hz1, hz2⟩ := info_parts Tryz.infoIntS
 obtain ⟨i3, hi3, hx0, hx1, hx2⟩ := info_parts Tryz.info3
 obtain ⟨i1, hi1, hy0, hy1, hy2⟩ := info_parts Tryz.infoWr
 have hA : Below w.heap.size w ((w.alloc (.cells #[.slice a0 n0 c0, .slice a1 n1 c1, .bool f, .slice a3 n3 c3] 109)).alloc (.cells #[.slice none 0 0, .slice none 0 0, .bool false, .slice none 0 0] 109)) := ((Below.refl _ _).alloc (Nat.le_refl _) _).alloc (by simp) _
 have xm : Box ((w.alloc (.cells #[.slice a0 n0 c0, .slice a1 n1 c1, .bool f, .slice a3 n3 c3] 109)).alloc (.cells #[.slice none 0 0, .slice none 0 0, .bool false, .slice none 0 0] 109)) w.heap.size 109 #[.slice a0 n0 c0, .slice a1 n1 c1, .bool f, .slice a3 n3 c3] := (Box.new w _ _).alloc _
 have xr : Box ((w.alloc (.cells #[.slice a0 n0 c0, .slice a1 n1 c1, .bool f, .slice a3 n3 c3] 109)).alloc (.cells #[.slice none 0 0, .slice none 0 0, .bool false, .slice none 0 0] 109)) (w.heap.size + 1) 109 #[.slice none 0 0, .slice none 0 0, .bool false, .slice none 0 0] := by
  have := Box.new (w.alloc (.cells #[.slice a0 n0 c0, .slice a1 n1 c1, .bool f, .slice a3 n3 c3] 109)) 109 #[.slice none 0 0, .slice none 0 0, .bool false, .slice none 0 0]
  rw [show (w.alloc (.cells #[.slice a0 n0 c0, .slice a1 n1 c1, .bool f, .slice a3 n3 c3] 109)).heap.size = w.heap.size + 1 by simp] at this
  exact this
 have hsz : ((w.alloc (.cells #[.slice a0 n0 c0, .slice a1 n1 c1, .bool f, .slice a3 n3 c3] 109)).alloc (.cells #[.slice none 0 0, .slice none 0 0, .bool false, .slice none 0 0] 109)).heap.size = w.heap.size + 1 + 1 := by simp
 have HSZ := hidden hsz
 clear hsz
 go_enter Tryz.func118, Tryz.ntmps118
 go_wp2_with fail
 generalize hW : (w.alloc (.cells #[.slice a0 n0 c0, .slice a1 n1 c1, .bool f, .slice a3 n3 c3] 109)).alloc (.cells #[.slice none 0 0, .slice none 0 0, .bool false, .slice none 0 0] 109) = W at hA xm xr HSZ ⊢
 clear hW
 obtain ⟨q0, q1, q2, q3⟩ := xm.cells4
 have zW : w.heap.size < W.heap.size := xm.lt
 have g3 := h3.below hA
 refine' with_key (G := _) (A := fun BO g w6 a5 c5 fp3 => Box w6 w.heap.size 109 #[.slice a0 n0 c0, .slice a1 n1 c1, .bool f, .slice a3 n3 c3] /\ Box w6 (w.heap.size + 1) 109 #[.slice none 0 0, .slice none 0 0, .bool false, .slice none 0 0] /\ Box w6 BO 109 #[.slice none 0 0, .slice none 0 0, .bool f, .slice a5 n3 c5] /\ tIntS.Mine w6 [.slice a5 n3 c5] bs fp3 /\ Below w.heap.size w w6 /\ (w.heap.size + 2 <= BO /\ BO < w6.heap.size /\ ∀ b ∈ fp3, w.heap.size + 2 <= b /\ b < w6.heap.size /\ b ≠ BO)) ?main (fun key => ?use)
 case use =>
  have sW : w.heap.size + 2 <= W.heap.size := by have := HSZ.out; omega
  have hgA : Box (W.alloc (.cells #[] 3)) W.heap.size 3 #[] := Box.new W 3 #[]
  have hgB : Box ((W.alloc (.cells #[] 3)).alloc (.cells #[.slice none 0 0, .slice none 0 0, .bool false, .slice none 0 0] 109)) W.heap.size 3 #[] := hgA.alloc _
  have hgC : Box ((W.alloc (.cells #[.slice none 0 0, .slice none 0 0, .bool false, .slice none 0 0] 109)).alloc (.cells #[] 3)) (W.heap.size + 1) 3 #[] := by
   have := Box.new (W.alloc (.cells #[.slice none 0 0, .slice none 0 0, .bool false, .slice none 0 0] 109)) 3 #[]
   rw [show (W.alloc (.cells #[.slice none 0 0, .slice none 0 0, .bool false, .slice none 0 0] 109)).heap.size = W.heap.size + 1 by simp] at this
   exact this
  have xoB : Box ((W.alloc (.cells #[] 3)).alloc (.cells #[.slice none 0 0, .slice none 0 0, .bool false, .slice none 0 0] 109)) (W.heap.size + 1) 109 #[.slice none 0 0, .slice none 0 0, .bool false, .slice none 0 0] := by
   have := Box.new (W.alloc (.cells #[] 3)) 109 #[.slice none 0 0, .slice none 0 0, .bool false, .slice none 0 0]
   rw [show (W.alloc (.cells #[] 3)).heap.size = W.heap.size + 1 by simp] at this
   exact this
  have xoC : Box ((W.alloc (.cells #[.slice none 0 0, .slice none 0 0, .bool false, .slice none 0 0] 109)).alloc (.cells #[] 3)) W.heap.size 109 #[.slice none 0 0, .slice none 0 0, .bool false, .slice none 0 0] := (Box.new W _ _).alloc _
  have zA : (W.alloc (.cells #[] 3)).heap.size = W.heap.size + 1 := by simp
  have zB : ((W.alloc (.cells #[] 3)).alloc (.cells #[.slice none 0 0, .slice none 0 0, .bool false, .slice none 0 0] 109)).heap.size = W.heap.size + 2 := by simp
  have zC : ((W.alloc (.cells #[.slice none 0 0, .slice none 0 0, .bool false, .slice none 0 0] 109)).alloc (.cells #[] 3)).heap.size = W.heap.size + 2 := by simp
  have ZA := hidden zA
  have ZB := hidden zB
  have ZC := hidden zC
  have HGA : Hid ((W.alloc (.cells #[] 3)).drew.heap[W.heap.size]? = some (.cells #[] 3 (0, 0))) := hgA
  have RDA : Hid (tIntS.Rd (W.alloc (.cells #[] 3)).drew [.slice a3 n3 c3] bs) := (g3.below ((Below.refl _ _).alloc (Nat.le_refl _) _)).drew
  have HGB : Hid (((W.alloc (.cells #[] 3)).alloc (.cells #[.slice none 0 0, .slice none 0 0, .bool false, .slice none 0 0] 109)).drew.heap[W.heap.size]? = some (.cells #[] 3 (0, 0))) := hgB
  have RDB : Hid (tIntS.Rd ((W.alloc (.cells #[] 3)).alloc (.cells #[.slice none 0 0, .slice none 0 0, .bool false, .slice none 0 0] 109)).drew [.slice a3 n3 c3] bs) := (g3.below (((Below.refl _ _).alloc (Nat.le_refl _) _).alloc (by simp) _)).drew
  have HGC : Hid (((W.alloc (.cells #[.slice none 0 0, .slice none 0 0, .bool false, .slice none 0 0] 109)).alloc (.cells #[] 3)).drew.heap[W.heap.size + 1]? = some (.cells #[] 3 (0, 0))) := hgC
  have RDC : Hid (tIntS.Rd ((W.alloc (.cells #[.slice none 0 0, .slice none 0 0, .bool false, .slice none 0 0] 109)).alloc (.cells #[] 3)).drew [.slice a3 n3 c3] bs) := (g3.below (((Below.refl _ _).alloc (Nat.le_refl _) _).alloc (by simp) _)).drew
  have XOB := hidden xoB
  have XOC := hidden xoC
  have XM := hidden xm
  have XR := hidden xr
  have G3 := hidden g3
  clear zA zB zC hgA hgB hgC xoB xoC
  have hS : ∀ w', Box w' w.heap.size 109 #[.slice a0 n0 c0, .slice a1 n1 c1, .bool f, .slice a3 n3 c3] -> w'.cell? ⟨w.heap.size, 2, none⟩ = some (.bool f) /\ w'.cell? ⟨w.heap.size, 3, none⟩ = some (.slice a3 n3 c3) := fun w' hb => ⟨hb.cell 2, hb.cell 3⟩
  have nB : Hid (w.heap.size ≠ W.heap.size + 1) := by unfold Hid; omega
  have nC : Hid (w.heap.size ≠ W.heap.size) := by unfold Hid; omega
  have hD : ∀ w', Box w' w.heap.size 109 #[.slice a0 n0 c0, .slice a1 n1 c1, .bool f, .slice a3 n3 c3] -> w'.drew.cell? ⟨w.heap.size, 2, none⟩ = some (.bool f) /\ w'.drew.cell? ⟨w.heap.size, 3, none⟩ = some (.slice a3 n3 c3) := hS
  go_region_held3 (fun w' => w'.cell? ⟨w.heap.size, 2, none⟩ = some (.bool f) /\ w'.cell? ⟨w.heap.size, 3, none⟩ = some (.slice a3 n3 c3))
   (first | (with_reducible exact hS w5 XM5.out) | (with_reducible exact hS _ (XM5.out.alloc _)) | (with_reducible exact hS _ ((((XM5.out.other nB.out 0 _).other nB.out 1 _).other nB.out 2 _).other nB.out 3 _)) | (with_reducible exact hS _ ((((XM5.out.other nC.out 0 _).other nC.out 1 _).other nC.out 2 _).other nC.out 3 _)) | (with_reducible exact hD _ XM.out) | (with_reducible exact hD _ (XM.out.alloc _)) | (with_reducible exact hD _ ((XM.out.alloc _).alloc _)) | go_keep)
   (first
    | (refine step_copy (by rfl) _ _ 30 (by rfl) i3 Tryz.underlying30 hi3 hx0 hx1 hx2 W.heap.size (by rfl) (by with_reducible exact HGA.out) a3 n3 c3 bs (by rfl) (by with_reducible exact RDA.out) (by omega) ?_; intro a5 c5 w5 fp3 m3 r3 t3; have t3' : Turned [W.heap.size] (W.alloc (.cells #[] 3)) w5 := Turned.undrew t3; have XM5 := hidden ((XM.out.alloc (.cells #[] 3)).turned t3' (by simp; omega)); have XR5 := hidden ((XR.out.alloc (.cells #[] 3)).turned t3' (by simp; omega)); have T3 := hidden t3'; have M3 := hidden m3; have R3 := hidden r3; clear t3 t3' m3 r3)
    | (refine step_copy (by rfl) _ _ 30 (by rfl) i3 Tryz.underlying30 hi3 hx0 hx1 hx2 W.heap.size (by rfl) (by with_reducible exact HGB.out) a3 n3 c3 bs (by rfl) (by with_reducible exact RDB.out) (by omega) ?_; intro a5 c5 w5 fp3 m3 r3 t3; have t3' : Turned [W.heap.size] ((W.alloc (.cells #[] 3)).alloc (.cells #[.slice none 0 0, .slice none 0 0, .bool false, .slice none 0 0] 109)) w5 := Turned.undrew t3; have XM5 := hidden (((XM.out.alloc (.cells #[] 3)).alloc (.cells #[.slice none 0 0, .slice none 0 0, .bool false, .slice none 0 0] 109)).turned t3' (by simp; omega)); have XR5 := hidden (((XR.out.alloc (.cells #[] 3)).alloc (.cells #[.slice none 0 0, .slice none 0 0, .bool false, .slice none 0 0] 109)).turned t3' (by simp; omega)); have xo5 := XOB.out.turned t3' (by simp); obtain ⟨s0, s1, s2, s3⟩ := xo5.cells4; have u0 := xo5.frozen 0; have u1 := xo5.frozen 1; have u2 := xo5.frozen 2; have u3 := xo5.frozen 3; have XO5 := hidden xo5; have T3 := hidden t3'; have M3 := hidden m3; have R3 := hidden r3; clear t3 t3' m3 r3 xo5)
    | (refine step_copy (by rfl) _ _ 30 (by rfl) i3 Tryz.underlying30 hi3 hx0 hx1 hx2 (W.heap.size + 1) (by rfl) (by with_reducible exact HGC.out) a3 n3 c3 bs (by rfl) (by with_reducible exact RDC.out) (by omega) ?_; intro a5 c5 w5 fp3 m3 r3 t3; have t3' : Turned [W.heap.size + 1] ((W.alloc (.cells #[.slice none 0 0, .slice none 0 0, .bool false, .slice none 0 0] 109)).alloc (.cells #[] 3)) w5 := Turned.undrew t3; have XM5 := hidden (((XM.out.alloc (.cells #[.slice none 0 0, .slice none 0 0, .bool false, .slice none 0 0] 109)).alloc (.cells #[] 3)).turned t3' (by simp; omega)); have XR5 := hidden (((XR.out.alloc (.cells #[.slice none 0 0, .slice none 0 0, .bool false, .slice none 0 0] 109)).alloc (.cells #[] 3)).turned t3' (by simp; omega)); have xo5 := XOC.out.turned t3' (by simp); obtain ⟨s0, s1, s2, s3⟩ := xo5.cells4; have u0 := xo5.frozen 0; have u1 := xo5.frozen 1; have u2 := xo5.frozen 2; have u3 := xo5.frozen 3; have XO5 := hidden xo5; have T3 := hidden t3'; have M3 := hidden m3; have R3 := hidden r3; clear t3 t3' m3 r3 xo5))
  . have hT := T3.out
    have zA := ZA.out
    have zT := hT.size
    have z6 : (w5.alloc (.cells #[.slice none 0 0, .slice none 0 0, .bool f, .slice a5 n3 c5] 109)).heap.size = w5.heap.size + 1 := by simp
    have FM := XM5.out.alloc (.cells #[.slice none 0 0, .slice none 0 0, .bool f, .slice a5 n3 c5] 109)
    have FR := XR5.out.alloc (.cells #[.slice none 0 0, .slice none 0 0, .bool f, .slice a5 n3 c5] 109)
    have FO := Box.new w5 109 #[.slice none 0 0, .slice none 0 0, .bool f, .slice a5 n3 c5]
    have F3 := M3.out.alloc (.cells #[.slice none 0 0, .slice none 0 0, .bool f, .slice a5 n3 c5] 109)
    have FB : Below w.heap.size w (w5.alloc (.cells #[.slice none 0 0, .slice none 0 0, .bool f, .slice a5 n3 c5] 109)) := (((hA.alloc (by omega) (.cells #[] 3)).trans (hT.below (N := w.heap.size) (by omega) (by simp; omega))).alloc (by omega) (.cells #[.slice none 0 0, .slice none 0 0, .bool f, .slice a5 n3 c5] 109))
    have FS : w.heap.size + 2 <= w5.heap.size /\ w5.heap.size < (w5.alloc (.cells #[.slice none 0 0, .slice none 0 0, .bool f, .slice a5 n3 c5] 109)).heap.size /\ ∀ b ∈ fp3, w.heap.size + 2 <= b /\ b < (w5.alloc (.cells #[.slice none 0 0, .slice none 0 0, .bool f, .slice a5 n3 c5] 109)).heap.size /\ b ≠ w5.heap.size := ⟨by omega, by omega, fun b hb => by
     obtain ⟨h1, h2⟩ := R3.out b hb
     have h3 : (W.alloc (.cells #[] 3)).drew.heap.size = (W.alloc (.cells #[] 3)).heap.size := rfl
     omega⟩
    have ALL := hidden (And.intro FM (And.intro FR (And.intro FO (And.intro F3 (And.intro FB FS)))))
    clear FM FR FO F3 FB FS hT zA zT z6
    generalize w5.alloc (.cells #[.slice none 0 0, .slice none 0 0, .bool f, .slice a5 n3 c5] 109) = w6 at ALL ⊢
    generalize w5.heap.size = BO at ALL ⊢
    generalize W.heap.size = g
    exact key.out BO g w6 a5 c5 fp3 ALL.out
  . have hT := T3.out
    have zA := ZB.out
    have zT := hT.size
    have hbt : But (W.heap.size + 1) (W.heap.size + 1 + 1) w5 ((((w5.setCell ⟨W.heap.size + 1, 0, none⟩ (.slice none 0 0)).setCell ⟨W.heap.size + 1, 1, none⟩ (.slice none 0 0)).setCell ⟨W.heap.size + 1, 2, none⟩ (.bool f)).setCell ⟨W.heap.size + 1, 3, none⟩ (.slice a5 n3 c5)) :=
     (((But.setCell (by omega) (by omega) _).trans (But.setCell (by omega) (by omega) _)).trans (But.setCell (by omega) (by omega) _)).trans (But.setCell (by omega) (by omega) _)
    have z6 := hbt.size
    have rr : ∀ b ∈ fp3, w.heap.size + 2 <= b /\ b < w5.heap.size /\ b ≠ W.heap.size + 1 := fun b hb => by
     obtain ⟨h1, h2⟩ := R3.out b hb
     have h3 : ((W.alloc (.cells #[] 3)).alloc (.cells #[.slice none 0 0, .slice none 0 0, .bool false, .slice none 0 0] 109)).drew.heap.size = ((W.alloc (.cells #[] 3)).alloc (.cells #[.slice none 0 0, .slice none 0 0, .bool false, .slice none 0 0] 109)).heap.size := rfl
     omega
    have FM := XM5.out.kept (hbt.block _ (by omega) (by omega))
    have FR := XR5.out.kept (hbt.block _ (by omega) (by omega))
    have FO := (((XO5.out.set 0 (.slice none 0 0)).set 1 (.slice none 0 0)).set 2 (.bool f)).set 3 (.slice a5 n3 c5)
    have F3 := M3.out.but hbt (fun b hb => by have := rr b hb; omega)
    have FB : Below w.heap.size w ((((w5.setCell ⟨W.heap.size + 1, 0, none⟩ (.slice none 0 0)).setCell ⟨W.heap.size + 1, 1, none⟩ (.slice none 0 0)).setCell ⟨W.heap.size + 1, 2, none⟩ (.bool f)).setCell ⟨W.heap.size + 1, 3, none⟩ (.slice a5 n3 c5)) := ((hA.alloc (by omega) (.cells #[] 3)).alloc (by simp; omega) (.cells #[.slice none 0 0, .slice none 0 0, .bool false, .slice none 0 0] 109)).trans ((hT.below (N := w.heap.size) (by omega) (by simp; omega)).trans (hbt.below (by omega) (by omega)))
    have FS : w.heap.size + 2 <= W.heap.size + 1 /\ W.heap.size + 1 < ((((w5.setCell ⟨W.heap.size + 1, 0, none⟩ (.slice none 0 0)).setCell ⟨W.heap.size + 1, 1, none⟩ (.slice none 0 0)).setCell ⟨W.heap.size + 1, 2, none⟩ (.bool f)).setCell ⟨W.heap.size + 1, 3, none⟩ (.slice a5 n3 c5)).heap.size /\ ∀ b ∈ fp3, w.heap.size + 2 <= b /\ b < ((((w5.setCell ⟨W.heap.size + 1, 0, none⟩ (.slice none 0 0)).setCell ⟨W.heap.size + 1, 1, none⟩ (.slice none 0 0)).setCell ⟨W.heap.size + 1, 2, none⟩ (.bool f)).setCell ⟨W.heap.size + 1, 3, none⟩ (.slice a5 n3 c5)).heap.size /\ b ≠ W.heap.size + 1 := ⟨by omega, by omega, fun b hb => by have := rr b hb; omega⟩
    have ALL := hidden (And.intro FM (And.intro FR (And.intro FO (And.intro F3 (And.intro FB FS)))))
    clear FM FR FO F3 FB FS hT zA zT z6 rr hbt
    generalize ((((w5.setCell ⟨W.heap.size + 1, 0, none⟩ (.slice none 0 0)).setCell ⟨W.heap.size + 1, 1, none⟩ (.slice none 0 0)).setCell ⟨W.heap.size + 1, 2, none⟩ (.bool f)).setCell ⟨W.heap.size + 1, 3, none⟩ (.slice a5 n3 c5)) = w6 at ALL ⊢
    generalize W.heap.size + 1 = BO at ALL ⊢
    generalize W.heap.size = g
    exact key.out BO g w6 a5 c5 fp3 ALL.out
  . have hT := T3.out
    have zA := ZC.out
    have zT := hT.size
    have hbt : But (W.heap.size) (W.heap.size + 1) w5 ((((w5.setCell ⟨W.heap.size, 0, none⟩ (.slice none 0 0)).setCell ⟨W.heap.size, 1, none⟩ (.slice none 0 0)).setCell ⟨W.heap.size, 2, none⟩ (.bool f)).setCell ⟨W.heap.size, 3, none⟩ (.slice a5 n3 c5)) :=
     (((But.setCell (by omega) (by omega) _).trans (But.setCell (by omega) (by omega) _)).trans (But.setCell (by omega) (by omega) _)).trans (But.setCell (by omega) (by omega) _)
    have z6 := hbt.size
    have rr : ∀ b ∈ fp3, w.heap.size + 2 <= b /\ b < w5.heap.size /\ b ≠ W.heap.size := fun b hb => by
     obtain ⟨h1, h2⟩ := R3.out b hb
     have h3 : ((W.alloc (.cells #[.slice none 0 0, .slice none 0 0, .bool false, .slice none 0 0] 109)).alloc (.cells #[] 3)).drew.heap.size = ((W.alloc (.cells #[.slice none 0 0, .slice none 0 0, .bool false, .slice none 0 0] 109)).alloc (.cells #[] 3)).heap.size := rfl
     omega
    have FM := XM5.out.kept (hbt.block _ (by omega) (by omega))
    have FR := XR5.out.kept (hbt.block _ (by omega) (by omega))
    have FO := (((XO5.out.set 0 (.slice none 0 0)).set 1 (.slice none 0 0)).set 2 (.bool f)).set 3 (.slice a5 n3 c5)
    have F3 := M3.out.but hbt (fun b hb => by have := rr b hb; omega)
    have FB : Below w.heap.size w ((((w5.setCell ⟨W.heap.size, 0, none⟩ (.slice none 0 0)).setCell ⟨W.heap.size, 1, none⟩ (.slice none 0 0)).setCell ⟨W.heap.size, 2, none⟩ (.bool f)).setCell ⟨W.heap.size, 3, none⟩ (.slice a5 n3 c5)) := ((hA.alloc (by omega) (.cells #[.slice none 0 0, .slice none 0 0, .bool false, .slice none 0 0] 109)).alloc (by simp; omega) (.cells #[] 3)).trans ((hT.below (N := w.heap.size) (by omega) (by simp; omega)).trans (hbt.below (by omega) (by omega)))
    have FS : w.heap.size + 2 <= W.heap.size /\ W.heap.size < ((((w5.setCell ⟨W.heap.size, 0, none⟩ (.slice none 0 0)).setCell ⟨W.heap.size, 1, none⟩ (.slice none 0 0)).setCell ⟨W.heap.size, 2, none⟩ (.bool f)).setCell ⟨W.heap.size, 3, none⟩ (.slice a5 n3 c5)).heap.size /\ ∀ b ∈ fp3, w.heap.size + 2 <= b /\ b < ((((w5.setCell ⟨W.heap.size, 0, none⟩ (.slice none 0 0)).setCell ⟨W.heap.size, 1, none⟩ (.slice none 0 0)).setCell ⟨W.heap.size, 2, none⟩ (.bool f)).setCell ⟨W.heap.size, 3, none⟩ (.slice a5 n3 c5)).heap.size /\ b ≠ W.heap.size := ⟨by omega, by omega, fun b hb => by have := rr b hb; omega⟩
    have ALL := hidden (And.intro FM (And.intro FR (And.intro FO (And.intro F3 (And.intro FB FS)))))
    clear FM FR FO F3 FB FS hT zA zT z6 rr hbt
    generalize ((((w5.setCell ⟨W.heap.size, 0, none⟩ (.slice none 0 0)).setCell ⟨W.heap.size, 1, none⟩ (.slice none 0 0)).setCell ⟨W.heap.size, 2, none⟩ (.bool f)).setCell ⟨W.heap.size, 3, none⟩ (.slice a5 n3 c5)) = w6 at ALL ⊢
    generalize W.heap.size + 1 = g
    generalize W.heap.size = BO at ALL ⊢
    exact key.out BO g w6 a5 c5 fp3 ALL.out
 case main =>
  rintro BO g w6 a5 c5 fp3 ⟨fm, fr0, fo, f3, fb, fs⟩
  have FM := hidden fm
  have FR := hidden fr0
  have FO := hidden fo
  have F3 := hidden f3
  have FB := hidden fb
  have FS := hidden fs
  clear fm fr0 fo f3 fb fs
  clear xm xr q0 q1 q2 q3 HSZ zW g3 hA
  obtain ⟨p0, p1, p2, p3⟩ := FM.out.cells4
  obtain ⟨fs1, fs2, fs3⟩ := FS.out
  go_wp2
  go_loopw [4] (fun i wr => ∃ (j : Nat) (v0 : Value) (fp0 : List Nat), j <= n0 /\ i = .int .i64 j /\ Fr w6.heap.size BO w6 wr /\ Box wr BO 109 #[v0, .slice none 0 0, .bool f, .slice a5 n3 c5] /\ tIntSS.Mine wr [v0] (ss.take j) fp0 /\ (∀ b ∈ fp0, w6.heap.size <= b)) (fun i _ => n0 - (intOf i).toNat)
  case atStart => exact ⟨0, _, [], Nat.zero_le _, rfl, Fr.refl _ _ _, FO.out, nil_mine _, by simp⟩
  case round =>
   obtain ⟨j, v0, fp0, hj, rfl, fr, xo, hm, hfp⟩ := hrel
   have hs := fr.size
   have xm := fr.box FM.out (by omega) (by omega)
   have hb := FB.out.trans (fr.below (M := w.heap.size) (by omega) (by omega))
   obtain ⟨q0, q1, q2, q3⟩ := xm.cells4
   by_cases hjn : j < n0
   . rcases rows_at rfl h0 with h0' | ⟨b, off, rfl, hbl, hcs⟩
     . omega
     have hdj : ss[j]? = some (ss[j]'(by omega)) := List.getElem?_eq_getElem (by omega)
     have htk : ss.take (j + 1) = ss.take j ++ [ss[j]'(by omega)] := List.take_succ_eq_append_getElem (by omega)
     generalize ss[j]'(by omega) = x at hdj htk
     have hil := inner_le hdj
     obtain ⟨v, hv, hrv⟩ := hcs j x hdj
     obtain ⟨av, cv, rfl⟩ := row_shape hrv
     have pv := (hb.cell (p := ⟨b, off + j, none⟩) hbl).trans hv
     have HX := hidden (hrv.below hb)
     have k1 : (0 : Int) <= (j : Int) := by omega
     have k2 : (j : Int) < (n0 : Int) := by omega
     have HTK := hidden htk
     have XO := hidden xo
     have XMR := hidden xm
     have FRR := hidden fr
     have HM := hidden hm
     have HFP := hidden hfp
     have HL : Hid ((ss.take j).length = j) := by unfold Hid; rw [List.length_take]; omega
     have L1 : Hid ((ss.take j).length + 1 <= maxLen) := by unfold Hid; rw [HL.out]; unfold maxLen; omega
     have L2 : Hid (((ss.take j).length + 1) * 24 <= 140737488355328) := by unfold Hid; rw [HL.out]; omega
     have mk : Hid (∀ w', Box w' BO 109 #[v0, .slice none 0 0, .bool f, .slice a5 n3 c5] -> Box w' w.heap.size 109 #[.slice (some ⟨b, off, none⟩) n0 c0, .slice a1 n1 c1, .bool f, .slice a3 n3 c3] -> w'.heap[b]? = wr.heap[b]? -> w'.cell? ⟨BO, 0, none⟩ = some (v0) /\ w'.cell? ⟨w.heap.size, 0, none⟩ = some (.slice (some ⟨b, off, none⟩) n0 c0) /\ w'.cell? ⟨b, off + j, none⟩ = some (.slice av x.length cv)) := fun w' e1 e2 e3 => ⟨e1.cell 0, e2.cell 0, (World.cell?_of_block e3).trans pv⟩
     have bA : Below wr.heap.size wr (wr.alloc (.cells #[] 3)) := (Below.refl _ _).alloc (Nat.le_refl _) _
     have hS : wr.drew.cell? ⟨BO, 0, none⟩ = some (v0) /\ wr.drew.cell? ⟨w.heap.size, 0, none⟩ = some (.slice (some ⟨b, off, none⟩) n0 c0) /\ wr.drew.cell? ⟨b, off + j, none⟩ = some (.slice av x.length cv) := mk.out wr.drew xo xm rfl
     have hS2 : (wr.alloc (.cells #[] 3)).drew.cell? ⟨BO, 0, none⟩ = some (v0) /\ (wr.alloc (.cells #[] 3)).drew.cell? ⟨w.heap.size, 0, none⟩ = some (.slice (some ⟨b, off, none⟩) n0 c0) /\ (wr.alloc (.cells #[] 3)).drew.cell? ⟨b, off + j, none⟩ = some (.slice av x.length cv) := mk.out (wr.alloc (.cells #[] 3)).drew (xo.alloc _) (xm.alloc _) (bA.block b (by omega))
     have HG : Hid ((wr.alloc (.cells #[] 3)).drew.heap[wr.heap.size]? = some (.cells #[] 3 (0, 0))) := Box.new wr 3 #[]
     have RD : Hid (tIntS.Rd (wr.alloc (.cells #[] 3)).drew [.slice av x.length cv] x) := (HX.out.below bA).drew
     have BA := hidden bA
     clear hcs hdj hv hrv htk xo xm hm hfp hb fr pv bA
     go_wp2_with fail
     refine Upto.start (S := fun w' => w'.cell? ⟨BO, 0, none⟩ = some (v0) /\ w'.cell? ⟨w.heap.size, 0, none⟩ = some (.slice (some ⟨b, off, none⟩) n0 c0) /\ w'.cell? ⟨b, off + j, none⟩ = some (.slice av x.length cv)) (k := 12) (by kernel_rfl) ?_
     refine Upto.t 0 hS ?_
     refine Upto.t 1 hS ?_
     refine Upto.t 3 hS ?_
     refine Upto.t 4 hS ?_
     refine Upto.t 5 hS ?_
     refine Upto.t 6 hS ?_
     refine Upto.t 7 hS ?_
     refine Upto.one (i := 2) (by kernel_rfl) rfl (fun K hK => ?_)
     go_simp
     refine hK.out _ _ (fun _ => hS2) ?_
     clear hK K
     refine Upto.one (i := 8) (by kernel_rfl) rfl (fun K hK => ?_)
     refine step_copy (by rfl) _ _ 30 (by rfl) i3 Tryz.underlying30 hi3 hx0 hx1 hx2 wr.heap.size (by rfl) HG.out av x.length cv x (by rfl) RD.out (by omega) ?_
     intro ac cc wc fpx mx rx tx
     have tx' : Turned [wr.heap.size] (wr.alloc (.cells #[] 3)) wc := Turned.undrew tx
     have zA : (wr.alloc (.cells #[] 3)).heap.size = wr.heap.size + 1 := by simp
     have zd : (wr.alloc (.cells #[] 3)).drew.heap.size = (wr.alloc (.cells #[] 3)).heap.size := rfl
     have hbc' : Below wr.heap.size wr wc := BA.out.trans (tx'.below (N := wr.heap.size) (by omega) (by simp))
     have xoc : Box wc BO 109 _ := XO.out.below hbc' (by omega)
     have xmc : Box wc w.heap.size 109 _ := XMR.out.below hbc' (by omega)
     have hS3 : wc.cell? ⟨BO, 0, none⟩ = some (v0) /\ wc.cell? ⟨w.heap.size, 0, none⟩ = some (.slice (some ⟨b, off, none⟩) n0 c0) /\ wc.cell? ⟨b, off + j, none⟩ = some (.slice av x.length cv) := mk.out wc xoc xmc (hbc'.block b (by omega))
     have bB : Below wc.heap.size wc (wc.alloc (.cells #[.slice ac x.length cc] 30)) := (Below.refl _ _).alloc (Nat.le_refl _) _
     have zc := hbc'.size
     have hS4 : (wc.alloc (.cells #[.slice ac x.length cc] 30)).cell? ⟨BO, 0, none⟩ = some (v0) /\ (wc.alloc (.cells #[.slice ac x.length cc] 30)).cell? ⟨w.heap.size, 0, none⟩ = some (.slice (some ⟨b, off, none⟩) n0 c0) /\ (wc.alloc (.cells #[.slice ac x.length cc] 30)).cell? ⟨b, off + j, none⟩ = some (.slice av x.length cv) := mk.out _ (xoc.alloc _) (xmc.alloc _) ((bB.block b (by omega)).trans (hbc'.block b (by omega)))
     have RX : Hid (∀ b ∈ fpx, wr.heap.size <= b /\ b < wc.heap.size) := fun b hb => by have := rx b hb; omega
     have XOC := hidden xoc
     have XMC := hidden xmc
     have MX := hidden mx
     have HBC := hidden hbc'
     have BB := hidden (Below.andThen hbc' bB)
     clear xoc xmc mx rx tx tx' hbc' bB zA zd
     refine hK.out _ _ (fun _ => hS3) ?_
     clear hK K
     simp only [Act.put, List.setIfInBounds_toArray, List.set_cons_zero, List.set_cons_succ]
     refine Upto.one (i := 9) (by kernel_rfl) rfl (fun K hK => ?_)
     go_simp
     refine hK.out _ _ (fun _ => hS4) ?_
     clear hK K
     refine Upto.one (i := 10) (by kernel_rfl) rfl (fun K hK => ?_)
     refine step_appT tIntS (by rfl) _ _ 106 (by rfl) 30 i0 (.slice none 0 0) 24 Tryz.underlying106 hi hz0 hz1 hz2 rfl Nat.zero_lt_one v0 (ss.take j) fp0 (by rfl) ?_ ⟨wc.heap.size, 0, none⟩ 1 [.slice ac x.length cc] x fpx (by rfl) ?_ ?_ ?_ ?_ L1.out L2.out ?_
     . exact (HM.out.below HBC.out).alloc _
     . exact MX.out.alloc _
     . intro b hb hb'
       have h1 := HM.out.lt b hb
       have h2 := RX.out b hb'
       omega
     . exact news_new _ _ _
     . intro u hu
       simp at hu
       rw [hu]
       rfl
     intro g cap wA fpA m1 m2 m3
     rw [HL.out] at m1 ⊢
     rw [← HTK.out] at m1
     have ya : Box wA BO 109 _ := (XOC.out.alloc _).turned m3 (fun hm => by have := HFP.out _ hm; omega)
     have ym : Box wA w.heap.size 109 _ := (XMC.out.alloc _).turned m3 (fun hm => by have := HFP.out _ hm; omega)
     have zB : (wc.alloc (.cells #[.slice ac x.length cc] 30)).heap.size = wc.heap.size + 1 := by simp
     have hS5 : wA.cell? ⟨BO, 0, none⟩ = some (v0) /\ wA.cell? ⟨w.heap.size, 0, none⟩ = some (.slice (some ⟨b, off, none⟩) n0 c0) /\ wA.cell? ⟨b, off + j, none⟩ = some (.slice av x.length cv) := mk.out wA ya ym ((m3.block b (by omega) (fun hm => by have := HFP.out _ hm; omega)).trans (BB.out.block b (by omega)))
     have r0 := hS5.1
     have fz := ya.frozen 0
     have YA := hidden ya
     have M1 := hidden m1
     have M2 := hidden m2
     have M3 := hidden m3
     clear ya ym m1 m2 m3 zB
     refine hK.out _ _ (fun _ => hS5) ?_
     clear hK K
     simp only [Act.put, List.setIfInBounds_toArray, List.set_cons_zero, List.set_cons_succ]
     refine Upto.t 11 hS5 ?_
     refine Upto.one (i := 12) (by kernel_rfl) rfl (fun K hK => ?_)
     go_simp
     refine hK.out _ _ (fun h => absurd rfl h) ?_
     clear hK K
     refine Upto.done (by kernel_rfl) ?_ _
     have hfA := round_fp (N := w6.heap.size) hs HBC.out HFP.out RX.out M2.out
     have frA := Fr.round FRR.out hs HBC.out _ M3.out HFP.out 0 (.slice (some ⟨g, 0, none⟩) (j + 1) cap)
     have mA := M1.out.setCell (g := BO) (j := 0) (fun hm => by have := hfA _ hm; omega) (.slice (some ⟨g, 0, none⟩) (j + 1) cap)
     have yA := YA.out.set 0 (.slice (some ⟨g, 0, none⟩) (j + 1) cap)
     have HFA := hidden hfA
     have FRA := hidden frA
     have MA := hidden mA
     have YA' := hidden yA
     clear hfA frA mA yA hS hS2 hS3 hS4 hS5 r0 YA M1 M2 M3 XOC MX RX HBC HFP HM FRR XO XMR XMC BA BB mk HG RD HX
     go_wp2
     go_roundw
     case rel => exact ⟨j + 1, _, fpA, by omega, by go_num, FRA.out, YA'.out, MA.out, HFA.out⟩
     case measure => simp [intOf]; omega
   . have e : n0 = j := by omega
     subst e
     rw [List.take_of_length_le (by omega)] at hm
     have hlt := hm.lt
     have GR := hidden (fr.box FR.out (by omega) (by omega))
     have GM := hidden xm
     have GB := hidden hb
     have G3 := hidden (fr.mine F3.out (fun b hb => by have := fs3 b hb; omega))
     have G0 := hidden (hm.own (lo := w6.heap.size) (hi := wr.heap.size) (fun b hb => ⟨hfp b hb, hlt b hb⟩))
     have GO := hidden xo
     clear fr xo xm hb hm hfp hlt FM FO F3 FB FR
     go_wp2
     generalize wr = w7 at hs GM GR GB G3 G0 GO q0 q1 q2 q3 ⊢
     go_loopw [5] (fun i wr => ∃ (j : Nat) (v1 : Value) (fp1 : List Nat), j <= n1 /\ i = .int .i64 j /\ Fr w7.heap.size BO w7 wr /\ Box wr BO 109 #[v0, v1, .bool f, .slice a5 n3 c5] /\ (tWrS 159).Mine wr [v1] (cs.take j) fp1 /\ (∀ b ∈ fp1, w7.heap.size <= b)) (fun i _ => n1 - (intOf i).toNat)
     case atStart => exact ⟨0, _, [], Nat.zero_le _, rfl, Fr.refl _ _ _, GO.out, nil_mine _, by simp⟩
     case round =>
      obtain ⟨j, v1, fp1, hj, rfl, fr, xo, hm, hfp⟩ := hrel
      have hs2 := fr.size
      have xm := fr.box GM.out (by omega) (by omega)
      have hb := GB.out.trans (fr.below (M := w.heap.size) (by omega) (by omega))
      clear q0 q1 q2 q3
      obtain ⟨q0, q1, q2, q3⟩ := xm.cells4
      by_cases hjn : j < n1
      . rcases pairs_at rfl h1 with h0' | ⟨b, off, rfl, hbl, hcs⟩
        . omega
        have hdj : cs[j]? = some (cs[j]'(by omega)) := List.getElem?_eq_getElem (by omega)
        have htk : cs.take (j + 1) = cs.take j ++ [cs[j]'(by omega)] := List.take_succ_eq_append_getElem (by omega)
        generalize cs[j]'(by omega) = x at hdj htk
        have hil := inner_le' hdj
        obtain ⟨u0, u1, hv0, hv1, hrv⟩ := hcs j x hdj
        obtain ⟨rfl, hrv'⟩ := wr_rd hrv
        obtain ⟨av, cv, rfl⟩ := row_shape hrv'
        have pv0 := (hb.cell (p := ⟨b, off + j * 2, none⟩) hbl).trans hv0
        have pv1 := (hb.cell (p := ⟨b, off + j * 2 + 1, none⟩) hbl).trans hv1
        obtain ⟨x0, x1⟩ := x
        simp only at pv0 pv1 hrv' hil
        have HX := hidden (hrv'.below hb)
        have k1 : (0 : Int) <= (j : Int) := by omega
        have k2 : (j : Int) < (n1 : Int) := by omega
        have HTK := hidden htk
        have XO := hidden xo
        have XMR := hidden xm
        have FRR := hidden fr
        have HM := hidden hm
        have HFP := hidden hfp
        have HL : Hid ((cs.take j).length = j) := by unfold Hid; rw [List.length_take]; omega
        have L1 : Hid ((cs.take j).length + 1 <= maxLen) := by unfold Hid; rw [HL.out]; unfold maxLen; omega
        have L2 : Hid (((cs.take j).length + 1) * 32 <= 140737488355328) := by unfold Hid; rw [HL.out]; omega
        have mk : Hid (∀ w', Box w' BO 109 #[v0, v1, .bool f, .slice a5 n3 c5] -> Box w' w.heap.size 109 #[.slice a0 n0 c0, .slice (some ⟨b, off, none⟩) n1 c1, .bool f, .slice a3 n3 c3] -> w'.heap[b]? = wr.heap[b]? -> w'.cell? ⟨BO, 1, none⟩ = some (v1) /\ w'.cell? ⟨w.heap.size, 1, none⟩ = some (.slice (some ⟨b, off, none⟩) n1 c1) /\ w'.cell? ⟨b, off + j * 2, none⟩ = some (.int .i64 x0) /\ w'.cell? ⟨b, off + j * 2 + 1, none⟩ = some (.slice av x1.length cv)) := fun w' e1 e2 e3 => ⟨e1.cell 1, e2.cell 1, (World.cell?_of_block e3).trans pv0, (World.cell?_of_block e3).trans pv1⟩
        have bA : Below wr.heap.size wr (wr.alloc (.cells #[] 3)) := (Below.refl _ _).alloc (Nat.le_refl _) _
        have hS : wr.drew.cell? ⟨BO, 1, none⟩ = some (v1) /\ wr.drew.cell? ⟨w.heap.size, 1, none⟩ = some (.slice (some ⟨b, off, none⟩) n1 c1) /\ wr.drew.cell? ⟨b, off + j * 2, none⟩ = some (.int .i64 x0) /\ wr.drew.cell? ⟨b, off + j * 2 + 1, none⟩ = some (.slice av x1.length cv) := mk.out wr.drew xo xm rfl
        have hS2 : (wr.alloc (.cells #[] 3)).drew.cell? ⟨BO, 1, none⟩ = some (v1) /\ (wr.alloc (.cells #[] 3)).drew.cell? ⟨w.heap.size, 1, none⟩ = some (.slice (some ⟨b, off, none⟩) n1 c1) /\ (wr.alloc (.cells #[] 3)).drew.cell? ⟨b, off + j * 2, none⟩ = some (.int .i64 x0) /\ (wr.alloc (.cells #[] 3)).drew.cell? ⟨b, off + j * 2 + 1, none⟩ = some (.slice av x1.length cv) := mk.out (wr.alloc (.cells #[] 3)).drew (xo.alloc _) (xm.alloc _) (bA.block b (by omega))
        have HG : Hid ((wr.alloc (.cells #[] 3)).drew.heap[wr.heap.size]? = some (.cells #[] 3 (0, 0))) := Box.new wr 3 #[]
        have RD : Hid (tIntS.Rd (wr.alloc (.cells #[] 3)).drew [.slice av x1.length cv] x1) := (HX.out.below bA).drew
        have BA := hidden bA
        clear hcs hdj hv0 hv1 hrv hrv' htk xo xm hm hfp hb fr pv0 pv1 bA
        go_wp2_with fail
        refine Upto.start (S := fun w' => w'.cell? ⟨BO, 1, none⟩ = some (v1) /\ w'.cell? ⟨w.heap.size, 1, none⟩ = some (.slice (some ⟨b, off, none⟩) n1 c1) /\ w'.cell? ⟨b, off + j * 2, none⟩ = some (.int .i64 x0) /\ w'.cell? ⟨b, off + j * 2 + 1, none⟩ = some (.slice av x1.length cv)) (k := 20) (by kernel_rfl) ?_
        refine Upto.t 0 hS ?_
        refine Upto.t 1 hS ?_
        refine Upto.t 2 hS ?_
        refine Upto.t 3 hS ?_
        refine Upto.t 4 hS ?_
        refine Upto.t 5 hS ?_
        refine Upto.t 6 hS ?_
        refine Upto.t 7 hS ?_
        refine Upto.t 9 hS ?_
        refine Upto.t 10 hS ?_
        refine Upto.t 11 hS ?_
        refine Upto.t 12 hS ?_
        refine Upto.t 13 hS ?_
        refine Upto.t 14 hS ?_
        refine Upto.one (i := 8) (by kernel_rfl) rfl (fun K hK => ?_)
        go_simp
        refine hK.out _ _ (fun _ => hS2) ?_
        clear hK K
        refine Upto.one (i := 15) (by kernel_rfl) rfl (fun K hK => ?_)
        refine step_copy (by rfl) _ _ 30 (by rfl) i3 Tryz.underlying30 hi3 hx0 hx1 hx2 wr.heap.size (by rfl) HG.out av x1.length cv x1 (by rfl) RD.out (by omega) ?_
        intro ac cc wc fpx mx rx tx
        have tx' : Turned [wr.heap.size] (wr.alloc (.cells #[] 3)) wc := Turned.undrew tx
        have zA : (wr.alloc (.cells #[] 3)).heap.size = wr.heap.size + 1 := by simp
        have zd : (wr.alloc (.cells #[] 3)).drew.heap.size = (wr.alloc (.cells #[] 3)).heap.size := rfl
        have hbc' : Below wr.heap.size wr wc := BA.out.trans (tx'.below (N := wr.heap.size) (by omega) (by simp))
        have xoc : Box wc BO 109 _ := XO.out.below hbc' (by omega)
        have xmc : Box wc w.heap.size 109 _ := XMR.out.below hbc' (by omega)
        have hS3 : wc.cell? ⟨BO, 1, none⟩ = some (v1) /\ wc.cell? ⟨w.heap.size, 1, none⟩ = some (.slice (some ⟨b, off, none⟩) n1 c1) /\ wc.cell? ⟨b, off + j * 2, none⟩ = some (.int .i64 x0) /\ wc.cell? ⟨b, off + j * 2 + 1, none⟩ = some (.slice av x1.length cv) := mk.out wc xoc xmc (hbc'.block b (by omega))
        have bB : Below wc.heap.size wc (wc.alloc (.cells #[.int .i64 x0, .slice ac x1.length cc] 159)) := (Below.refl _ _).alloc (Nat.le_refl _) _
        have zc := hbc'.size
        have hS4 : (wc.alloc (.cells #[.int .i64 x0, .slice ac x1.length cc] 159)).cell? ⟨BO, 1, none⟩ = some (v1) /\ (wc.alloc (.cells #[.int .i64 x0, .slice ac x1.length cc] 159)).cell? ⟨w.heap.size, 1, none⟩ = some (.slice (some ⟨b, off, none⟩) n1 c1) /\ (wc.alloc (.cells #[.int .i64 x0, .slice ac x1.length cc] 159)).cell? ⟨b, off + j * 2, none⟩ = some (.int .i64 x0) /\ (wc.alloc (.cells #[.int .i64 x0, .slice ac x1.length cc] 159)).cell? ⟨b, off + j * 2 + 1, none⟩ = some (.slice av x1.length cv) := mk.out _ (xoc.alloc _) (xmc.alloc _) ((bB.block b (by omega)).trans (hbc'.block b (by omega)))
        have RX : Hid (∀ b ∈ fpx, wr.heap.size <= b /\ b < wc.heap.size) := fun b hb => by have := rx b hb; omega
        have XOC := hidden xoc
        have XMC := hidden xmc
        have MX := hidden mx
        have HBC := hidden hbc'
        have BB := hidden (Below.andThen hbc' bB)
        clear xoc xmc mx rx tx tx' hbc' bB zA zd
        refine hK.out _ _ (fun _ => hS3) ?_
        clear hK K
        simp only [Act.put, List.setIfInBounds_toArray, List.set_cons_zero, List.set_cons_succ]
        refine Upto.t 16 hS3 ?_
        refine Upto.one (i := 17) (by kernel_rfl) rfl (fun K hK => ?_)
        go_simp
        refine hK.out _ _ (fun _ => hS4) ?_
        clear hK K
        refine Upto.one (i := 18) (by kernel_rfl) rfl (fun K hK => ?_)
        refine step_appT tWr (by rfl) _ _ 107 (by rfl) 159 i1 (.agg #[.int .i64 0, .slice none 0 0]) 32 Tryz.underlying107 hi1 hy0 hy1 hy2 rfl Nat.zero_lt_two v1 (cs.take j) fp1 (by rfl) ?_ ⟨wc.heap.size, 0, none⟩ 1 [.int .i64 x0, .slice ac x1.length cc] (x0, x1) fpx (by rfl) ?_ ?_ ?_ ?_ L1.out L2.out ?_
        . exact (HM.out.below HBC.out).alloc _
        . exact (wr_mine x0 MX.out).alloc _
        . intro b hb hb'
          have h1 := HM.out.lt b hb
          have h2 := RX.out b hb'
          omega
        . exact news_new _ _ _
        . intro u hu
          simp at hu
          rcases hu with hu | hu <;> (rw [hu]; rfl)
        intro g cap wA fpA m1 m2 m3
        rw [HL.out] at m1 ⊢
        rw [← HTK.out] at m1
        have ya : Box wA BO 109 _ := (XOC.out.alloc _).turned m3 (fun hm => by have := HFP.out _ hm; omega)
        have ym : Box wA w.heap.size 109 _ := (XMC.out.alloc _).turned m3 (fun hm => by have := HFP.out _ hm; omega)
        have zB : (wc.alloc (.cells #[.int .i64 x0, .slice ac x1.length cc] 159)).heap.size = wc.heap.size + 1 := by simp
        have hS5 : wA.cell? ⟨BO, 1, none⟩ = some (v1) /\ wA.cell? ⟨w.heap.size, 1, none⟩ = some (.slice (some ⟨b, off, none⟩) n1 c1) /\ wA.cell? ⟨b, off + j * 2, none⟩ = some (.int .i64 x0) /\ wA.cell? ⟨b, off + j * 2 + 1, none⟩ = some (.slice av x1.length cv) := mk.out wA ya ym ((m3.block b (by omega) (fun hm => by have := HFP.out _ hm; omega)).trans (BB.out.block b (by omega)))
        have r0 := hS5.1
        have fz := ya.frozen 1
        have YA := hidden ya
        have M1 := hidden m1
        have M2 := hidden m2
        have M3 := hidden m3
        clear ya ym m1 m2 m3 zB
        refine hK.out _ _ (fun _ => hS5) ?_
        clear hK K
        simp only [Act.put, List.setIfInBounds_toArray, List.set_cons_zero, List.set_cons_succ]
        refine Upto.t 19 hS5 ?_
        refine Upto.one (i := 20) (by kernel_rfl) rfl (fun K hK => ?_)
        go_simp
        refine hK.out _ _ (fun h => absurd rfl h) ?_
        clear hK K
        refine Upto.done (by kernel_rfl) ?_ _
        have hfA := round_fp (N := w7.heap.size) hs2 HBC.out HFP.out RX.out M2.out
        have frA := Fr.round FRR.out hs2 HBC.out _ M3.out HFP.out 1 (.slice (some ⟨g, 0, none⟩) (j + 1) cap)
        have mA := M1.out.setCell (g := BO) (j := 1) (fun hm => by have := hfA _ hm; omega) (.slice (some ⟨g, 0, none⟩) (j + 1) cap)
        have yA := YA.out.set 1 (.slice (some ⟨g, 0, none⟩) (j + 1) cap)
        have HFA := hidden hfA
        have FRA := hidden frA
        have MA := hidden mA
        have YA' := hidden yA
        clear hfA frA mA yA hS hS2 hS3 hS4 hS5 r0 YA M1 M2 M3 XOC MX RX HBC HFP HM FRR XO XMR XMC BA BB mk HG RD HX
        go_wp2
        go_roundw
        case rel => exact ⟨j + 1, _, fpA, by omega, by go_num, FRA.out, YA'.out, MA.out, HFA.out⟩
        case measure => simp [intOf]; omega
      . have e : n1 = j := by omega
        subst e
        rw [List.take_of_length_le (by omega)] at hm
        have hlt := hm.lt
        have xr := fr.box GR.out (by omega) (by omega)
        obtain ⟨p0, p1, p2, p3⟩ := xr.cells4
        have fz := xr.frozen
        obtain ⟨r0, r1, r2, r3⟩ := xo.cells4
        have K3 := fr.mine G3.out (fun b hb => by have := fs3 b hb; omega)
        have K0 := fr.own G0.out (by omega) (by omega)
        have K1 := hm.own (lo := w7.heap.size) (hi := wr.heap.size) (fun b hb => ⟨hfp b hb, hlt b hb⟩)
        have KB := GB.out.trans (fr.below (M := w.heap.size) (by omega) (by omega))
        obtain ⟨e0, g0, hv0⟩ := row_shape K0.rd
        obtain ⟨e1, g1, hv1⟩ := row_shape K1.rd
        rw [hl0] at hv0
        rw [hl1] at hv1
        subst hv0 hv1
        have hbt : But (w.heap.size + 1) (w.heap.size + 2) wr ((((wr.setCell ⟨w.heap.size + 1, 0, none⟩ (.slice e0 n0 g0)).setCell ⟨w.heap.size + 1, 1, none⟩ (.slice e1 n1 g1)).setCell ⟨w.heap.size + 1, 2, none⟩ (.bool f)).setCell ⟨w.heap.size + 1, 3, none⟩ (.slice a5 n3 c5)) :=
         (((But.setCell (by omega) (by omega) _).trans (But.setCell (by omega) (by omega) _)).trans (But.setCell (by omega) (by omega) _)).trans (But.setCell (by omega) (by omega) _)
        have H3 := hidden ((K3.but hbt (fun b hb => by have := fs3 b hb; omega)).own (lo := w.heap.size) (hi := w6.heap.size) (fun b hb => by have := fs3 b hb; omega))
        have H0 := hidden (K0.but hbt (by omega))
        have H1 := hidden (K1.but hbt (by omega))
        have HB := hidden (Below.andBut KB hbt (by omega))
        have hsz := hbt.size
        clear fr xo xm hb hm hfp hlt xr K3 K0 K1 KB hbt GM GR GB G3 G0 GO
        go_wp2
        refine bodyPost_ret (v := .agg #[.slice e0 n0 g0, .slice e1 n1 g1, .bool f, .slice a5 n3 c5]) (by simp [results, Tryz.results118, go_sem, p0, p1, p2, p3]) rfl ?_
        exact ⟨_, _, _, w6.heap.size, w7.heap.size, rfl, H3.out, H0.out, H1.out.widen (Nat.le_refl _) hsz, by omega, by omega, by omega, HB.out⟩

theorem copy_shapes {w w' : World} {e : Ending} {n0 n1 n3 : Nat} {ss : List (List Int)} {cs : List (Int × List Int)} {f : Bool} {bs : List Int} (hl0 : ss.length = n0) (hl1 : cs.length = n1) (hl3 : bs.length = n3)
 (h : ∃ v0 v1 v3 m1 m2, e = .returned (.agg #[v0, v1, .bool f, v3]) /\ tIntS.Own w' w.heap.size m1 [v3] bs /\ tIntSS.Own w' m1 m2 [v0] ss /\ (tWrS 159).Own w' m2 w'.heap.size [v1] cs /\ m1 <= m2 /\ w.heap.size <= m1 /\ m2 <= w'.heap.size /\ Below w.heap.size w w') :
 ∃ b0 b1 b3 e0 e1 e3 m1 m2, e = .returned (.agg #[.slice b0 n0 e0, .slice b1 n1 e1, .bool f, .slice b3 n3 e3]) /\ tIntS.Own w' w.heap.size m1 [.slice b3 n3 e3] bs /\ tIntSS.Own w' m1 m2 [.slice b0 n0 e0] ss /\ (tWrS 159).Own w' m2 w'.heap.size [.slice b1 n1 e1] cs /\ m1 <= m2 /\ w.heap.size <= m1 /\ m2 <= w'.heap.size /\ Below w.heap.size w w' := by
 obtain ⟨v0, v1, v3, m1, m2, rfl, o3, o0, o1, r⟩ := h
 obtain ⟨b0, e0, hv0⟩ := row_shape o0.rd
 obtain ⟨b1, e1, hv1⟩ := row_shape o1.rd
 obtain ⟨b3, e3, hv3⟩ := row_shape o3.rd
 rw [hl0] at hv0
 rw [hl1] at hv1
 rw [hl3] at hv3
 subst hv0 hv1 hv3
 exact ⟨b0, b1, b3, e0, e1, e3, m1, m2, rfl, o3, o0, o1, r⟩

end Go.Proofs.YtianjijbmiebgaaGreat

namespace Go.Proofs.YtianjijbmiebgaaGreat
open Go.RowKit Go.Maps

def heldV (v : Value) : Option (DataW Value × List MemPlace) := some (.held v, [])
def lastW (l : List (Int × List Int)) (q : Int) : Option (List Int) := l.foldl (fun acc x => if x.1 = q then some x.2 else acc) none
theorem lastW_snoc (l : List (Int × List Int)) (x : Int × List Int) (q : Int) : lastW (l ++ [x]) q = if x.1 = q then some x.2 else lastW l q := by
 unfold lastW
 rw [List.foldl_append]
 rfl

def LastOk (w : World) (l : List (Int × List Int)) (D : DataW Value) : Prop :=
 ∀ q : Int, (lastW l q = none -> Maps.has D (.int .i64 q) = false) /\ ∀ zs, lastW l q = some zs -> Maps.has D (.int .i64 q) = true /\ ∃ a n cap, (∀ z, D.atKey (.int .i64 q) z = .held (.agg #[.int .i64 q, .slice a n cap])) /\ tIntS.Rd w [.slice a n cap] zs

theorem LastOk.nil (w : World) : LastOk w [] (.map []) := fun q => ⟨fun _ => rfl, fun zs h => by simp [lastW] at h⟩
theorem LastOk.step {w : World} {l : List (Int × List Int)} {D : DataW Value} (h : LastOk w l D) (hD : IsMap D) (x0 : Int) (x1 : List Int) (a : Option Addr) (n cap : Nat) (hr : tIntS.Rd w [.slice a n cap] x1) :
 LastOk w (l ++ [(x0, x1)]) (D.put (.int .i64 x0) (.held (.agg #[.int .i64 x0, .slice a n cap]))) := by
 intro q
 rw [lastW_snoc]
 by_cases hq : x0 = q
 . subst hq
   simp only [if_true]
   refine ⟨fun e => by simp at e, fun zs e => ?_⟩
   simp at e
   subst e
   have hk : WideAt.IsKeyLit (.int .i64 x0) := trivial
   exact ⟨has_put_same hD hk _, a, n, cap, fun z => atKey_put_same hD hk _ _, hr⟩
 . simp only [hq, if_false]
   have hne : (Lit.int .i64 q) ≠ Lit.int .i64 x0 := fun e => by simp at e; exact hq e.symm
   refine ⟨fun e => ?_, fun zs e => ?_⟩
   . rw [has_put_other hne]
     exact (h q).1 e
   . obtain ⟨h1, a', n', c', h2, h3⟩ := (h q).2 zs e
     exact ⟨by rw [has_put_other hne]; exact h1, a', n', c', fun z => by rw [atKey_put_other hne]; exact h2 z, h3⟩

theorem lawInt : Keyed Tryz.prog 3 := int_keyed Tryz.underlying3

theorem newest_at (w0 w : World) (hb0 : Below w0.heap.size w0 w) (E : TypeId) (a : Option Addr) (n cap : Nat) (d : List (Int × List Int)) (h : (tWrS E).Rd w0 [.slice a n cap] d) (hn : n <= 2097152) (hd : ∀ x ∈ d, 0 <= x.1 /\ x.1 <= 20) :
 Calls Tryz.prog 253 #[.slice a n cap] w fun e w' => e = .returned (.map (some w.heap.size)) /\ Below w.heap.size w w' /\ ∃ D, w'.ownsMap Tryz.prog 3 heldV w.heap.size n D /\ LastOk w0 d D := by
 obtain ⟨hl, hc, hm⟩ := row_length h
 have hmm := @run_makeMap Tryz.prog
 go_enter Tryz.func253, Tryz.ntmps253
 go_wp2
 clear hmm
 go_loopw [9] (fun i wr => ∃ j : Nat, j <= n /\ i = .int .i64 j /\ Below w.heap.size w wr /\ ∃ D, wr.ownsMap Tryz.prog 3 heldV w.heap.size j D /\ LastOk w0 (d.take j) D) (fun i _ => n - (intOf i).toNat)
 case atStart => exact ⟨0, Nat.zero_le _, rfl, (Below.refl _ _).alloc (Nat.le_refl _) _, _, World.ownsMap_made _ _ _ _, LastOk.nil _⟩
 case round =>
  obtain ⟨j, hj, rfl, hb, D, ho, hL⟩ := hrel
  by_cases hjn : j < n
  . rcases pairs_at rfl h with h0' | ⟨b, off, rfl, hbl, hcs⟩
    . omega
    have hdj : d[j]? = some (d[j]'(by omega)) := List.getElem?_eq_getElem (by omega)
    have hmem : d[j]'(by omega) ∈ d := List.getElem_mem _
    have htk : d.take (j + 1) = d.take j ++ [d[j]'(by omega)] := List.take_succ_eq_append_getElem (by omega)
    generalize d[j]'(by omega) = x at hdj hmem htk
    have hx := hd x hmem
    obtain ⟨v0, v1, hv0, hv1, hrv⟩ := hcs j x hdj
    obtain ⟨rfl, hrv'⟩ := wr_rd hrv
    obtain ⟨av, cv, rfl⟩ := row_shape hrv'
    have hbr := hb0.trans (hb.mono hb0.size)
    have p0 := (hbr.cell (p := ⟨b, off + j * 2, none⟩) hbl).trans hv0
    have p1 := (hbr.cell (p := ⟨b, off + j * 2 + 1, none⟩) hbl).trans hv1
    clear hbr
    obtain ⟨x0, x1⟩ := x
    simp only at p0 p1 hrv' hx
    have HL := hidden (hL.step ho.isMap x0 x1 av x1.length cv hrv')
    have HK := hidden (htk)
    have HO := hidden (ho.alloc (.cells #[.int .i64 x0, .slice av x1.length cv] 159))
    have hkey : keyOf Tryz.prog 3 (.int .i64 x0) = some (.int .i64 x0) := keyOf_int_mk Tryz.underlying3 (WalkArith.wf_i64 (by omega))
    have HKEY := hidden hkey
    have HB := hidden (hb.alloc hb.size (.cells #[.int .i64 x0, .slice av x1.length cv] 159))
    clear hcs hdj hv0 hv1 hrv hrv' hmem htk ho hL hkey
    go_wp2_with (at_mapUpdate; refine wpList_mapUpdate_own _ rfl _ _ _ 218 rfl 3 159 lawInt Tryz.underlying218 heldV w.heap.size j D rfl ?_ ?_ _ _ (.int .i64 x0) rfl rfl ?_ (.held (.agg #[.int .i64 x0, .slice av x1.length cv])) [] rfl ?_; exact HO.out; unfold maxLen; omega; exact HKEY.out; intro w1 hown1 hgrow1; have HO1 := hidden hown1; have HG1 := hidden hgrow1; clear hown1 hgrow1)
    have hB1 : Below w.heap.size w w1 := HB.out.grown HG1.out HB.out.size (fun k hk => by cases hk; exact Nat.le_refl _)
    clear HB HG1 HO hb
    go_roundw
    case rel => exact ⟨j + 1, by omega, by go_num, hB1, _, HO1.out, by rw [HK.out]; exact HL.out⟩
    case measure => simp [intOf]; omega
  . have e : j = n := by omega
    subst e
    rw [List.take_of_length_le (by omega)] at hL
    go_wp2
    go_ret
    exact ⟨rfl, hb, D, ho, hL⟩

theorem key_int {q : Int} (h0 : 0 <= q) (h1 : q <= 2097152) : keyOf Tryz.prog 3 (.int .i64 q) = some (.int .i64 q) := keyOf_int_mk Tryz.underlying3 (WalkArith.wf_i64 (by omega))
theorem zeroWr (w : World) : (zeroValue 159).run Tryz.prog w = .ok (.agg #[.int .i64 0, .slice none 0 0]) w := by kernel_rfl

end Go.Proofs.YtianjijbmiebgaaGreat

namespace Go.Proofs.YtianjijbmiebgaaGreat
open Go.RowKit

theorem mem_writes {ss : List (List Int)} {cs : List (Int × List Int)} {bs : List Int} (h : memB ss cs bs = true) : ∀ x ∈ cs, 0 <= x.1 /\ x.1 <= 20 := by
 unfold memB at h
 simp only [Bool.and_eq_true, List.all_eq_true] at h
 obtain ⟨_, h2, _, h4, _⟩ := h
 intro x hx
 have h5 := h2 x hx
 unfold wrB inB at h5
 unfold inB at h4
 simp at h4 h5
 omega
theorem mem_secs {ss : List (List Int)} {cs : List (Int × List Int)} {bs : List Int} (h : memB ss cs bs = true) : ss.length <= 20 := by
 unfold memB at h
 simp only [Bool.and_eq_true] at h
 obtain ⟨_, _, _, h4, _⟩ := h
 unfold inB at h4
 simp at h4
 omega

theorem lastW_aux (q : Int) (zs : List Int) : ∀ (l : List (Int × List Int)) (acc : Option (List Int)), l.foldl (fun acc x => if x.1 = q then some x.2 else acc) acc = some zs -> acc = some zs ∨ (q, zs) ∈ l
 | [], acc, h => .inl h
 | x :: l, acc, h => by
  rw [List.foldl_cons] at h
  rcases lastW_aux q zs l _ h with h1 | h1
  . by_cases hx : x.1 = q
    . rw [if_pos hx] at h1
      simp at h1
      right
      rw [← hx, ← h1]
      exact List.mem_cons_self
    . rw [if_neg hx] at h1
      exact .inl h1
  . exact .inr (List.mem_cons_of_mem _ h1)
theorem lastW_mem {l : List (Int × List Int)} {q : Int} {zs : List Int} (h : lastW l q = some zs) : (q, zs) ∈ l := by
 rcases lastW_aux q zs l none h with h1 | h1
 . simp at h1
 . exact h1
theorem lastW_le {l : List (Int × List Int)} {q : Int} {zs : List Int} {N : Nat} (hw : wtWrS l <= N) (h : lastW l q = some zs) : zs.length <= N := by
 obtain ⟨j, hj⟩ := List.mem_iff_getElem?.1 (lastW_mem h)
 exact Nat.le_trans (inner_le' hj) hw

theorem mem_writes_lt {ss : List (List Int)} {cs : List (Int × List Int)} {bs : List Int} (h : memB ss cs bs = true) : ∀ x ∈ cs, ∃ q : Nat, x.1 = (q : Int) /\ q < ss.length := by
 unfold memB at h
 simp only [Bool.and_eq_true, List.all_eq_true] at h
 obtain ⟨_, h2, _⟩ := h
 intro x hx
 have h5 := h2 x hx
 unfold wrB inB at h5
 simp at h5
 exact ⟨x.1.toNat, by omega, by omega⟩
theorem mem_some {ss : List (List Int)} {cs : List (Int × List Int)} {bs : List Int} (h : memB ss cs bs = true) : 0 < ss.length := by
 unfold memB at h
 simp only [Bool.and_eq_true] at h
 obtain ⟨_, _, _, h4, _⟩ := h
 unfold inB at h4
 simp at h4
 omega
theorem mem_small {ss : List (List Int)} {cs : List (Int × List Int)} {bs : List Int} (h : memB ss cs bs = true) : (∀ x ∈ ss, x.length <= 12) /\ ∀ x ∈ cs, x.2.length <= 12 := by
 unfold memB at h
 simp only [Bool.and_eq_true, List.all_eq_true] at h
 obtain ⟨h1, h2, _⟩ := h
 refine ⟨fun x hx => ?_, fun x hx => ?_⟩
 . have := h1 x hx
   unfold secB at this
   simp at this
   omega
 . have := h2 x hx
   unfold wrB secB at this
   simp at this
   omega

def flushD (ss : List (List Int)) (ks : List (Int × List Int)) : List (List Int) := (List.range ss.length).map fun (k : Nat) => (lastW ks (k : Int)).getD (ss.getD k [])
def partD (ss : List (List Int)) (ks : List (Int × List Int)) (j : Nat) : List (List Int) := (List.range ss.length).map fun (k : Nat) => if k < j then (lastW ks (k : Int)).getD (ss.getD k []) else ss.getD k []

theorem flushD_length (ss : List (List Int)) (ks : List (Int × List Int)) : (flushD ss ks).length = ss.length := by unfold flushD; simp
theorem partD_length (ss : List (List Int)) (ks : List (Int × List Int)) (j : Nat) : (partD ss ks j).length = ss.length := by unfold partD; simp
theorem flushD_get {ss : List (List Int)} {ks : List (Int × List Int)} {k : Nat} (h : k < ss.length) : (flushD ss ks)[k]? = some ((lastW ks (k : Int)).getD (ss.getD k [])) := by
 unfold flushD
 rw [List.getElem?_map, List.getElem?_range h]
 rfl
theorem partD_get {ss : List (List Int)} {ks : List (Int × List Int)} {j k : Nat} (h : k < ss.length) : (partD ss ks j)[k]? = some (if k < j then (lastW ks (k : Int)).getD (ss.getD k []) else ss.getD k []) := by
 unfold partD
 rw [List.getElem?_map, List.getElem?_range h]
 rfl
theorem list_ext_lt {α : Type} {l m : List α} {n : Nat} (hl : l.length = n) (hm : m.length = n) (h : ∀ k, k < n -> l[k]? = m[k]?) : l = m := by
 apply List.ext_getElem?
 intro k
 by_cases hk : k < n
 . exact h k hk
 . rw [List.getElem?_eq_none (by omega), List.getElem?_eq_none (by omega)]
theorem getD_some {ss : List (List Int)} {k : Nat} (h : k < ss.length) : ss[k]? = some (ss.getD k []) := by
 rw [List.getD_eq_getElem?_getD, List.getElem?_eq_getElem h]
 rfl

theorem flushD_nil (ss : List (List Int)) : flushD ss [] = ss := by
 refine list_ext_lt (flushD_length _ _) rfl (fun k hk => ?_)
 rw [flushD_get hk, getD_some hk]
 rfl
theorem partD_zero (ss : List (List Int)) (ks : List (Int × List Int)) : partD ss ks 0 = ss := by
 refine list_ext_lt (partD_length _ _ _) rfl (fun k hk => ?_)
 rw [partD_get hk, getD_some hk, if_neg (by omega)]
theorem partD_all {ss : List (List Int)} {ks : List (Int × List Int)} {j : Nat} (h : ∀ k : Nat, j <= k -> k < ss.length -> lastW ks (k : Int) = none) : partD ss ks j = flushD ss ks := by
 refine list_ext_lt (partD_length _ _ _) (flushD_length _ _) (fun k hk => ?_)
 rw [partD_get hk, flushD_get hk]
 by_cases hj : k < j
 . rw [if_pos hj]
 . rw [if_neg hj, h k (by omega) hk]
   rfl
theorem partD_some {ss : List (List Int)} {ks : List (Int × List Int)} {j : Nat} {zs : List Int} (hj : j < ss.length) (h : lastW ks (j : Int) = some zs) : partD ss ks (j + 1) = (partD ss ks j).set j zs := by
 refine list_ext_lt (partD_length _ _ _) (by rw [List.length_set]; exact partD_length _ _ _) (fun k hk => ?_)
 rw [partD_get hk]
 by_cases hkj : k = j
 . subst hkj
   rw [if_pos (by omega), h, List.getElem?_set_self (by rw [partD_length]; exact hk)]
   rfl
 . rw [List.getElem?_set_ne (fun e => hkj e.symm), partD_get hk]
   by_cases hl : k < j
   . rw [if_pos hl, if_pos (by omega)]
   . rw [if_neg hl, if_neg (by omega)]
theorem partD_none {ss : List (List Int)} {ks : List (Int × List Int)} {j : Nat} (h : lastW ks (j : Int) = none) : partD ss ks (j + 1) = partD ss ks j := by
 refine list_ext_lt (partD_length _ _ _) (partD_length _ _ _) (fun k hk => ?_)
 rw [partD_get hk, partD_get hk]
 by_cases hkj : k = j
 . subst hkj
   rw [if_pos (by omega), if_neg (by omega), h]
   rfl
 . by_cases hl : k < j
   . rw [if_pos hl, if_pos (by omega)]
   . rw [if_neg hl, if_neg (by omega)]
theorem flushD_snoc {ss : List (List Int)} {ks : List (Int × List Int)} {q : Nat} {zs : List Int} (hq : q < ss.length) : flushD ss (ks ++ [((q : Int), zs)]) = (flushD ss ks).set q zs := by
 refine list_ext_lt (flushD_length _ _) (by rw [List.length_set]; exact flushD_length _ _) (fun k hk => ?_)
 rw [flushD_get hk, lastW_snoc]
 by_cases hkq : k = q
 . subst hkq
   rw [if_pos rfl, List.getElem?_set_self (by rw [flushD_length]; exact hk)]
   rfl
 . rw [if_neg (by simp; omega), List.getElem?_set_ne (fun e => hkq e.symm), flushD_get hk]

theorem sumL_bound : ∀ (l : List Nat) (m : Nat), (∀ x ∈ l, x <= m) -> sumL l <= m * l.length
 | [], m, _ => by simp [sumL]
 | x :: l, m, h => by
  have h1 := sumL_bound l m (fun y hy => h y (List.mem_cons_of_mem _ hy))
  have h2 := h x List.mem_cons_self
  have h3 : sumL (x :: l) = x + sumL l := by simp [sumL]
  rw [h3, List.length_cons, Nat.mul_succ]
  omega

end Go.Proofs.YtianjijbmiebgaaGreat

namespace Go.Proofs.YtianjijbmiebgaaGreat
open Go.RowKit Go.Maps

def RestOk (w : World) (ks : List (Int × List Int)) (j : Nat) (D : DataW Value) : Prop :=
 ∀ q : Nat, j <= q -> (lastW ks (q : Int) = none -> Maps.has D (.int .i64 q) = false) /\ ∀ zs, lastW ks (q : Int) = some zs -> Maps.has D (.int .i64 q) = true /\ ∃ a cap, (∀ z, D.atKey (.int .i64 q) z = .held (.agg #[.int .i64 q, .slice a zs.length cap])) /\ tIntS.Rd w [.slice a zs.length cap] zs
theorem LastOk.rest {w : World} {ks : List (Int × List Int)} {D : DataW Value} (h : LastOk w ks D) : RestOk w ks 0 D := fun q _ => ⟨(h q).1, fun zs hz => by
 obtain ⟨h1, a, n, cap, h2, h3⟩ := (h q).2 zs hz
 obtain ⟨hl, _, _⟩ := row_length h3
 subst hl
 exact ⟨h1, a, cap, h2, h3⟩⟩
theorem RestOk.next {w : World} {ks : List (Int × List Int)} {j : Nat} {D : DataW Value} (h : RestOk w ks j D) : RestOk w ks (j + 1) D := fun q hq => h q (by omega)
theorem RestOk.del {w : World} {ks : List (Int × List Int)} {j : Nat} {D : DataW Value} (h : RestOk w ks j D) : RestOk w ks (j + 1) (D.del (.int .i64 j)) := by
 intro q hq
 have hne : (Lit.int .i64 (q : Int)) ≠ Lit.int .i64 (j : Int) := fun e => by simp at e; omega
 obtain ⟨h1, h2⟩ := h q (by omega)
 refine ⟨fun e => by rw [has_del_other hne]; exact h1 e, fun zs e => ?_⟩
 obtain ⟨h3, a, cap, h4, h5⟩ := h2 zs e
 exact ⟨by rw [has_del_other hne]; exact h3, a, cap, fun z => by rw [atKey_del_other hne]; exact h4 z, h5⟩
theorem RestOk.empty {w : World} {ks : List (Int × List Int)} {j : Nat} {D : DataW Value} (h : RestOk w ks j D) (hD : IsMap D) (hz : Maps.size D = 0) : ∀ q : Nat, j <= q -> lastW ks (q : Int) = none := by
 intro q hq
 cases hl : lastW ks (q : Int) with
 | none => rfl
 | some zs =>
  have h1 := ((h q hq).2 zs hl).1
  obtain ⟨es, rfl⟩ := hD
  have h2 : es = [] := List.eq_nil_of_length_eq_zero hz
  subst h2
  simp [Maps.has] at h1
theorem look_here {w : World} {ops : Array Oper} {rest : List Oper} {o : Oper} {a : Act} {Q : Exit -> Act -> World -> Prop} (hg : o.guard = none) (m x : Operand) (hop : o.op = Op.lookup 218 m x true) (b n : Nat) (D : DataW Value) (q : Int) (v : Value)
 (hm : a.eval m = .map (some b)) (hown : w.ownsMap Tryz.prog 3 heldV b n D) (hx : a.eval x = .int .i64 q) (hkey : keyOf Tryz.prog 3 (.int .i64 q) = some (.int .i64 q)) (h1 : Maps.has D (.int .i64 q) = true) (h2 : ∀ z, D.atKey (.int .i64 q) z = .held v)
 (hK : wpList Tryz.prog ops Q rest (a.put o.dst (.tuple #[v, .bool true])) w) : wpList Tryz.prog ops Q (o :: rest) a w := by
 refine wpList_lookup_own_ok w hg m x _ hop 3 159 lawInt Tryz.underlying218 heldV (zeroWr w) (.held (.agg #[.int .i64 0, .slice none 0 0])) [] rfl b n D hm hown _ _ hx hkey ?_
 intro v' ps hv
 rw [h2] at hv
 have hv' : v' = v := by simp [heldV] at hv; exact hv.1
 subst hv'
 rw [h1]
 exact hK
theorem look_away {w : World} {ops : Array Oper} {rest : List Oper} {o : Oper} {a : Act} {Q : Exit -> Act -> World -> Prop} (hg : o.guard = none) (m x : Operand) (hop : o.op = Op.lookup 218 m x true) (b n : Nat) (D : DataW Value) (q : Int)
 (hm : a.eval m = .map (some b)) (hown : w.ownsMap Tryz.prog 3 heldV b n D) (hx : a.eval x = .int .i64 q) (hkey : keyOf Tryz.prog 3 (.int .i64 q) = some (.int .i64 q)) (h1 : Maps.has D (.int .i64 q) = false)
 (hK : wpList Tryz.prog ops Q rest (a.put o.dst (.tuple #[.agg #[.int .i64 0, .slice none 0 0], .bool false])) w) : wpList Tryz.prog ops Q (o :: rest) a w := by
 refine wpList_lookup_own_ok w hg m x _ hop 3 159 lawInt Tryz.underlying218 heldV (zeroWr w) (.held (.agg #[.int .i64 0, .slice none 0 0])) [] rfl b n D hm hown _ _ hx hkey ?_
 intro v ps hv
 rw [Maps.atKey_of_not_has h1] at hv
 have hv' : v = .agg #[.int .i64 0, .slice none 0 0] := by simp [heldV] at hv; exact hv.1
 subst hv'
 rw [h1]
 exact hK
theorem Below.grows {w w' : World} (h : Below w.heap.size w w') : w.grownBy w' none := ⟨h.os, h.tape, h.output, h.size, fun k hk _ => h.block k hk⟩

theorem settle_any (w : World) (E Ek : TypeId) (a0 a1 a3 ak : Option Addr) (n0 c0 n1 c1 n3 c3 nk ck : Nat) (ss : List (List Int)) (cs : List (Int × List Int)) (f : Bool) (bs : List Int) (h0 : tIntSS.Rd w [.slice a0 n0 c0] ss) (h1 : (tWrS E).Rd w [.slice a1 n1 c1] cs) (h3 : tIntS.Rd w [.slice a3 n3 c3] bs) (hw : wtMem (ss, cs, f, bs) <= 2097152) (ks : List (Int × List Int)) (hk : (tWrS Ek).Rd w [.slice ak nk ck] ks) (hwk : wtWrS ks <= 2097152) (hks : ∀ x ∈ ks, 0 <= x.1 /\ x.1 <= 20) (hn20 : n0 <= 20) :
 Calls Tryz.prog 247 #[.agg #[.slice a0 n0 c0, .slice a1 n1 c1, .bool f, .slice a3 n3 c3], .slice ak nk ck] w fun e w' => ∃ v0 v1 v3, e = .returned (.agg #[v0, v1, .bool f, v3]) /\ (tMem 159).Own w' w.heap.size w'.heap.size [v0, v1, .bool f, v3] (flushD ss ks, [], f, bs) /\ Below w.heap.size w w' := by
 obtain ⟨hl0, _, hm0⟩ := row_length h0
 obtain ⟨hl1, _, hm1⟩ := row_length h1
 obtain ⟨hl3, _, hm3⟩ := row_length h3
 have hA : Below w.heap.size w ((w.alloc (.cells #[.slice a0 n0 c0, .slice a1 n1 c1, .bool f, .slice a3 n3 c3] 109)).alloc (.cells #[.slice none 0 0, .slice none 0 0, .bool false, .slice none 0 0] 109)) := ((Below.refl _ _).alloc (Nat.le_refl _) _).alloc (by simp) _
 have xr : Box ((w.alloc (.cells #[.slice a0 n0 c0, .slice a1 n1 c1, .bool f, .slice a3 n3 c3] 109)).alloc (.cells #[.slice none 0 0, .slice none 0 0, .bool false, .slice none 0 0] 109)) (w.heap.size + 1) 109 #[.slice none 0 0, .slice none 0 0, .bool false, .slice none 0 0] := by
  have := Box.new (w.alloc (.cells #[.slice a0 n0 c0, .slice a1 n1 c1, .bool f, .slice a3 n3 c3] 109)) 109 #[.slice none 0 0, .slice none 0 0, .bool false, .slice none 0 0]
  rw [show (w.alloc (.cells #[.slice a0 n0 c0, .slice a1 n1 c1, .bool f, .slice a3 n3 c3] 109)).heap.size = w.heap.size + 1 by simp] at this
  exact this
 go_enter Tryz.func247, Tryz.ntmps247
 go_wp2_with fail
 generalize hW : (w.alloc (.cells #[.slice a0 n0 c0, .slice a1 n1 c1, .bool f, .slice a3 n3 c3] 109)).alloc (.cells #[.slice none 0 0, .slice none 0 0, .bool false, .slice none 0 0] 109) = W at hA xr ⊢
 clear hW
 have zr := xr.lt
 refine (copyMem_any _ E _ _ _ _ _ _ _ _ _ ss cs f bs (h0.below hA) (h1.below hA) (h3.below hA) hw).mono ?_
 intro e w1 hc
 obtain ⟨b0, b1, b3, e0, e1, e3, m1, m2, rfl, o3, o0, o1, r1, r2, r3, bb⟩ := copy_shapes hl0 hl1 hl3 hc
 clear hc
 have z1 := bb.size
 obtain ⟨hlk, _, hmk⟩ := row_length hk
 have hnk : nk <= 2097152 := by unfold wtWrS at hwk; omega
 have sW : w.heap.size + 2 <= W.heap.size := by omega
 have ba : Below w1.heap.size w1 (w1.alloc (.cells #[.slice b0 n0 e0, .slice none 0 0, .bool f, .slice b3 n3 e3] 109)) := (Below.refl _ _).alloc (Nat.le_refl _) _
 have yo := Box.new w1 109 #[.slice b0 n0 e0, .slice none 0 0, .bool f, .slice b3 n3 e3]
 have yr := (xr.below bb zr).below ba (by omega)
 have k0 := o0.below ba
 have k3 := o3.below ba
 have kb := hA.trans ((bb.mono (by omega : w.heap.size <= W.heap.size)).trans (ba.mono (by omega)))
 have zo := yo.lt
 clear o0 o1 o3
 have YO := hidden yo
 have YR := hidden yr
 have K0 := hidden k0
 have K3 := hidden k3
 have KB := hidden kb
 clear yo yr k0 k3 xr
 go_wp2_with fail
 generalize w1.alloc (.cells #[.slice b0 n0 e0, .slice none 0 0, .bool f, .slice b3 n3 e3] 109) = w2 at ba YO YR K0 K3 KB kb zo ⊢
 have z2 := ba.size
 refine (newest_at w w2 kb Ek ak nk ck ks hk hnk hks).mono ?_
 rintro e w3 ⟨rfl, b3', D, hown, hL⟩
 have z3 := b3'.size
 have XO := hidden (YO.out.below b3' (by omega))
 have XR := hidden (YR.out.below b3' (by omega))
 have L0 := hidden (K0.out.below b3')
 have L3 := hidden (K3.out.below b3')
 have LB := hidden (KB.out.trans (b3'.mono (by omega)))
 have HOW := hidden hown
 have HL := hidden hL
 clear YO YR K0 K3 KB kb b3' hown hL ba
 have hgs : ∃ gS, (n0 = 0 ∨ b0 = some ⟨gS, 0, none⟩) /\ m1 <= gS /\ gS < w3.heap.size /\ gS ≠ w1.heap.size := by
  rcases L0.out.rowShape with h | ⟨g, rfl⟩
  . exact ⟨w2.heap.size, .inl h, by omega, HOW.out.lt, by omega⟩
  . obtain ⟨fq, mq, rq⟩ := L0.out.mine
    have hgm := (row_parts mq).1
    have := rq g hgm
    exact ⟨g, .inr rfl, by omega, by omega, by omega⟩
 obtain ⟨gS, hg0, hg1, hg2, hg3⟩ := hgs
 obtain ⟨fpS0, mS0, rS0⟩ := L0.out.mine
 have MS0 := hidden mS0
 have RS0 := hidden rS0
 clear mS0 rS0
 obtain ⟨x0, x1, x2, x3⟩ := XO.out.cells4
 go_wp2
 clear x0 x1 x2 x3
 have hB3 := HOW.out.lt
 go_loopw [7] (fun i wr => ∃ (j : Nat) (Dm : DataW Value) (fpS : List Nat), j <= n0 /\ i = .int .i64 j /\ Turned [gS, w2.heap.size] w3 wr /\ tIntSS.Mine wr [.slice b0 n0 e0] (partD ss ks j) fpS /\ (∀ b ∈ fpS, m1 <= b /\ (b < m2 ∨ w3.heap.size <= b)) /\ wr.ownsMap Tryz.prog 3 heldV w2.heap.size nk Dm /\ RestOk w ks j Dm) (fun i _ => n0 - (intOf i).toNat)
 case atStart => exact ⟨0, D, fpS0, Nat.zero_le _, rfl, Turned.refl _ _, by rw [partD_zero]; exact MS0.out, fun b hb => by have := RS0.out b hb; omega, HOW.out, HL.out.rest⟩
 case round =>
  obtain ⟨j, Dm, fpS, hj, rfl, tn, hS, hfp, how, hR⟩ := hrel
  have hs := tn.size
  have xo := XO.out.turned tn (by simp; omega)
  obtain ⟨q0, q1, q2, q3⟩ := xo.cells4
  have hlen := how.len Tryz.underlying218 3
  have hszn := how.size_le
  generalize hsz : Maps.size Dm = sz at hlen hszn
  have HSZ := hidden hsz
  clear hsz
  by_cases hjn : j < n0
  . have k1 : (0 : Int) <= (j : Int) := by omega
    have k2 : (j : Int) < (n0 : Int) := by omega
    by_cases hpos : 0 < sz
    . have k5 : (0 : Int) < (sz : Int) := by omega
      have HKEY := hidden (key_int (q := (j : Int)) (by omega) (by omega))
      have HOWR := hidden how
      have HRR := hidden hR
      have HFP := hidden hfp
      have HSS := hidden hS
      have TN := hidden tn
      have XOR := hidden xo
      clear how hR hfp hS tn xo
      cases hlw : lastW ks (j : Int) with
      | none =>
       have HN := hidden ((HRR.out j (Nat.le_refl _)).1 hlw)
       have HP := hidden (partD_none (ss := ss) hlw)
       have MA := hidden (HSS.out.alloc (.cells #[.int .i64 0, .slice none 0 0] 159))
       have TA := hidden (TN.out.alloc (.cells #[.int .i64 0, .slice none 0 0] 159))
       have OA := hidden (HOWR.out.alloc (.cells #[.int .i64 0, .slice none 0 0] 159))
       clear hlw
       go_wp2_with (at_lookup; refine look_away rfl _ _ rfl w2.heap.size nk Dm (j : Int) rfl HOWR.out rfl HKEY.out HN.out ?_)
       go_roundw
       case rel => exact ⟨j + 1, Dm, fpS, by omega, by go_num, TA.out, by rw [HP.out]; exact MA.out, HFP.out, OA.out, HRR.out.next⟩
       case measure => simp [intOf]; omega
      | some zs =>
       obtain ⟨hh1, la, lc, hh2, hh3⟩ := (HRR.out j (Nat.le_refl _)).2 zs hlw
       have H1 := hidden hh1
       have H2 := hidden hh2
       have HP := hidden (partD_some (ss := ss) (by omega) hlw)
       have hzl : zs.length <= 2097152 := lastW_le hwk hlw
       rcases hg0 with hg0 | hg0
       . omega
       subst hg0
       have bA : Below wr.heap.size wr (wr.alloc (.cells #[.int .i64 (j : Int), .slice la zs.length lc] 159)) := (Below.refl _ _).alloc (Nat.le_refl _) _
       have zA : wr.heap.size < (wr.alloc (.cells #[.int .i64 (j : Int), .slice la zs.length lc] 159)).heap.size := by simp
       have XW := hidden (Box.new wr 159 #[.int .i64 (j : Int), .slice la zs.length lc])
       have XOA := hidden (XOR.out.alloc (.cells #[.int .i64 (j : Int), .slice la zs.length lc] 159))
       have MA := hidden (HSS.out.alloc (.cells #[.int .i64 (j : Int), .slice la zs.length lc] 159))
       have TA := hidden (TN.out.alloc (.cells #[.int .i64 (j : Int), .slice la zs.length lc] 159))
       have OA := hidden (HOWR.out.alloc (.cells #[.int .i64 (j : Int), .slice la zs.length lc] 159))
       have RD := hidden (hh3.below (LB.out.trans ((TN.out.below (N := w.heap.size) (by omega) (by simp; omega)).trans (bA.mono (by omega)))))
       clear hlw hh1 hh2 hh3 bA
       go_wp2_with (at_lookup; refine look_here rfl _ _ rfl w2.heap.size nk Dm (j : Int) (.agg #[.int .i64 (j : Int), .slice la zs.length lc]) rfl HOWR.out rfl HKEY.out H1.out H2.out ?_)
       generalize wr.alloc (.cells #[.int .i64 (j : Int), .slice la zs.length lc] 159) = w8 at XW XOA MA TA OA RD zA ⊢
       have zT := TA.out.size
       have hSc : ∀ w', Box w' w1.heap.size 109 #[.slice (some ⟨gS, 0, none⟩) n0 e0, .slice none 0 0, .bool f, .slice b3 n3 e3] -> Box w' wr.heap.size 159 #[.int .i64 (j : Int), .slice la zs.length lc] -> w'.cell? ⟨w1.heap.size, 0, none⟩ = some (.slice (some ⟨gS, 0, none⟩) n0 e0) /\ w'.cell? ⟨wr.heap.size, 1, none⟩ = some (.slice la zs.length lc) := fun w' e1 e2 => ⟨e1.cell 0, e2.cell 1⟩
       have hSd : ∀ w', Box w' w1.heap.size 109 #[.slice (some ⟨gS, 0, none⟩) n0 e0, .slice none 0 0, .bool f, .slice b3 n3 e3] -> Box w' wr.heap.size 159 #[.int .i64 (j : Int), .slice la zs.length lc] -> w'.drew.cell? ⟨w1.heap.size, 0, none⟩ = some (.slice (some ⟨gS, 0, none⟩) n0 e0) /\ w'.drew.cell? ⟨wr.heap.size, 1, none⟩ = some (.slice la zs.length lc) := hSc
       have nO : Hid (w1.heap.size ≠ gS) := by unfold Hid; omega
       have nW : Hid (wr.heap.size ≠ gS) := by unfold Hid; omega
       go_region_held3 (fun w' => w'.cell? ⟨w1.heap.size, 0, none⟩ = some (.slice (some ⟨gS, 0, none⟩) n0 e0) /\ w'.cell? ⟨wr.heap.size, 1, none⟩ = some (.slice la zs.length lc))
        (first | (with_reducible exact hSd w8 XOA.out XW.out) | (with_reducible exact hSc wc XOC.out XWC.out) | (with_reducible exact hSc _ (XOC.out.other nO.out _ _) (XWC.out.other nW.out _ _)) | go_keep)
        (first
         | (go_at_call 112; refine (copyWords_any _ _ _ _ zs (by exact RD.out.drew) (by omega)).mono ?_; rintro e wc ⟨ac, cc, rfl, oc, hbc⟩; have hbc' : Below w8.heap.size w8 wc := (by exact (Below.refl w8.heap.size w8).drew.trans hbc); have XOC := hidden (XOA.out.below hbc' (by omega)); have XWC := hidden (XW.out.below hbc' (by omega)); have mc := MA.out.below hbc'; have hlt := MA.out.lt; obtain ⟨fpx, mx, rx⟩ := Ty.Own.mine (lo := w8.heap.size) oc; obtain ⟨⟨old, cOld⟩, fz, hgm, fpA, mA, rA⟩ := row_set1 (j := j) rfl mc hjn mx (fun b hb hb' => by have h1 := hlt b hb'; have h2 := rx b hb; omega); have MX := hidden mA; have RA := hidden rA; have RX := hidden rx; have HBC := hidden hbc'; have HGM := hidden hgm; clear mc hlt mx rx oc hbc hbc' mA rA hgm))
       have zc := HBC.out.size
       have OD := hidden ((OA.out.kept (Below.grows HBC.out) (by simp)).setCell (a := ⟨gS, j, none⟩) (by simp only; have h1 := HFP.out gS HGM.out; omega) (.slice ac zs.length cc))
       have hfA : ∀ b ∈ fpA, m1 <= b /\ (b < m2 ∨ w3.heap.size <= b) := fun b hb => by
        rcases RA.out b hb with h | h
        . exact HFP.out b h
        . have := RX.out b h
          omega
       have TD := hidden ((TA.out.trans (Turned.ofBelow HBC.out _)).trans (Turned.setCell (w := wc) (g := gS) (j := j) (.slice ac zs.length cc) (List.mem_cons_self : gS ∈ [gS, w2.heap.size])))
       have HFA := hidden hfA
       clear hfA XOC XWC XOA XW nO nW hSc hSd RA RX HBC MA TA OA RD cOld fz H1 H2
       go_wp2_with (at_delete; refine wpList_delete_own _ rfl _ _ 218 3 rfl 159 lawInt Tryz.underlying218 heldV w2.heap.size nk Dm rfl OD.out _ _ rfl HKEY.out ?_; intro wD hownD hturnD; have HOD := hidden hownD; have HTD := hidden hturnD.grown; clear hownD hturnD)
       have tD : Turned [w2.heap.size] (wc.setCell ⟨gS, j, none⟩ (.slice ac zs.length cc)) wD := ⟨HTD.out.os, HTD.out.tape, HTD.out.output, HTD.out.size, fun k hk hf => HTD.out.block k hk (by simp at hf ⊢; exact hf)⟩
       have TF := hidden (TD.out.trans (tD.mono (fun b hb => List.mem_cons_of_mem _ hb)))
       have MF := hidden (MX.out.kept tD (fun b hb hb' => by have h1 := HFA.out b hb; simp at hb'; omega))
       clear tD TD MX HTD OD
       go_roundw
       case rel => exact ⟨j + 1, Dm.del (.int .i64 (j : Int)), fpA, by omega, by go_num, TF.out, by rw [HP.out]; exact MF.out, HFA.out, HOD.out, HRR.out.del⟩
       case measure => simp [intOf]; omega
    . have HD : Hid (partD ss ks j = flushD ss ks) := partD_all (fun k hk hkl => hR.empty how.isMap (by have := HSZ.out; omega) k hk)
      have k5 : ¬ (0 : Int) < (sz : Int) := by omega
      have K0' := hS.own (lo := m1) (hi := wr.heap.size) (fun b hb => by have h1 := hfp b hb; have h2 := hS.lt b hb; omega)
      have xr := XR.out.turned tn (by simp; omega)
      obtain ⟨p0, p1, p2, p3⟩ := xr.cells4
      have fz := xr.frozen
      have K3' := L3.out.but (tn.but (lo := m1) (hi := w3.heap.size) (by simp; omega)) (.inl (Nat.le_refl _))
      have KB' := LB.out.trans (tn.below (N := w.heap.size) (by omega) (by simp; omega))
      have hbt : But (w.heap.size + 1) (w.heap.size + 2) wr ((((wr.setCell ⟨w.heap.size + 1, 0, none⟩ (.slice b0 n0 e0)).setCell ⟨w.heap.size + 1, 1, none⟩ (.slice none 0 0)).setCell ⟨w.heap.size + 1, 2, none⟩ (.bool f)).setCell ⟨w.heap.size + 1, 3, none⟩ (.slice b3 n3 e3)) :=
       (((But.setCell (by omega) (by omega) _).trans (But.setCell (by omega) (by omega) _)).trans (But.setCell (by omega) (by omega) _)).trans (But.setCell (by omega) (by omega) _)
      have z9 := hbt.size
      have FIN : Hid ((tMem 159).Own ((((wr.setCell ⟨w.heap.size + 1, 0, none⟩ (.slice b0 n0 e0)).setCell ⟨w.heap.size + 1, 1, none⟩ (.slice none 0 0)).setCell ⟨w.heap.size + 1, 2, none⟩ (.bool f)).setCell ⟨w.heap.size + 1, 3, none⟩ (.slice b3 n3 e3)) w.heap.size ((((wr.setCell ⟨w.heap.size + 1, 0, none⟩ (.slice b0 n0 e0)).setCell ⟨w.heap.size + 1, 1, none⟩ (.slice none 0 0)).setCell ⟨w.heap.size + 1, 2, none⟩ (.bool f)).setCell ⟨w.heap.size + 1, 3, none⟩ (.slice b3 n3 e3)).heap.size [.slice b0 n0 e0, .slice none 0 0, .bool f, .slice b3 n3 e3] (partD ss ks j, [], f, bs)) := (mem_own3 (K0'.but hbt (by omega)) (nil_own _ wr.heap.size wr.heap.size) (K3'.but hbt (by omega)) (by omega) (by omega) (by omega) (by omega) (by omega) (by omega))
      have FB := hidden (Below.andBut KB' hbt (by omega))
      clear K0' K3' KB' xr hS tn how hR hfp hbt xo
      go_wp2
      refine bodyPost_ret (v := .agg #[.slice b0 n0 e0, .slice none 0 0, .bool f, .slice b3 n3 e3]) (by simp [results, Tryz.results247, go_sem, p0, p1, p2, p3]) rfl ?_
      exact ⟨_, _, _, rfl, by rw [← HD.out]; exact FIN.out, FB.out⟩
  . have e : n0 = j := by omega
    subst e
    have HD : Hid (partD ss ks n0 = flushD ss ks) := partD_all (fun k hk hkl => by omega)
    have K0' := hS.own (lo := m1) (hi := wr.heap.size) (fun b hb => by have h1 := hfp b hb; have h2 := hS.lt b hb; omega)
    have xr := XR.out.turned tn (by simp; omega)
    obtain ⟨p0, p1, p2, p3⟩ := xr.cells4
    have fz := xr.frozen
    have K3' := L3.out.but (tn.but (lo := m1) (hi := w3.heap.size) (by simp; omega)) (.inl (Nat.le_refl _))
    have KB' := LB.out.trans (tn.below (N := w.heap.size) (by omega) (by simp; omega))
    have hbt : But (w.heap.size + 1) (w.heap.size + 2) wr ((((wr.setCell ⟨w.heap.size + 1, 0, none⟩ (.slice b0 n0 e0)).setCell ⟨w.heap.size + 1, 1, none⟩ (.slice none 0 0)).setCell ⟨w.heap.size + 1, 2, none⟩ (.bool f)).setCell ⟨w.heap.size + 1, 3, none⟩ (.slice b3 n3 e3)) :=
     (((But.setCell (by omega) (by omega) _).trans (But.setCell (by omega) (by omega) _)).trans (But.setCell (by omega) (by omega) _)).trans (But.setCell (by omega) (by omega) _)
    have z9 := hbt.size
    have FIN : Hid ((tMem 159).Own ((((wr.setCell ⟨w.heap.size + 1, 0, none⟩ (.slice b0 n0 e0)).setCell ⟨w.heap.size + 1, 1, none⟩ (.slice none 0 0)).setCell ⟨w.heap.size + 1, 2, none⟩ (.bool f)).setCell ⟨w.heap.size + 1, 3, none⟩ (.slice b3 n3 e3)) w.heap.size ((((wr.setCell ⟨w.heap.size + 1, 0, none⟩ (.slice b0 n0 e0)).setCell ⟨w.heap.size + 1, 1, none⟩ (.slice none 0 0)).setCell ⟨w.heap.size + 1, 2, none⟩ (.bool f)).setCell ⟨w.heap.size + 1, 3, none⟩ (.slice b3 n3 e3)).heap.size [.slice b0 n0 e0, .slice none 0 0, .bool f, .slice b3 n3 e3] (partD ss ks n0, [], f, bs)) := (mem_own3 (K0'.but hbt (by omega)) (nil_own _ wr.heap.size wr.heap.size) (K3'.but hbt (by omega)) (by omega) (by omega) (by omega) (by omega) (by omega) (by omega))
    have FB := hidden (Below.andBut KB' hbt (by omega))
    clear K0' K3' KB' xr hS tn how hR hfp hbt xo
    go_wp2
    refine bodyPost_ret (v := .agg #[.slice b0 n0 e0, .slice none 0 0, .bool f, .slice b3 n3 e3]) (by simp [results, Tryz.results247, go_sem, p0, p1, p2, p3]) rfl ?_
    exact ⟨_, _, _, rfl, by rw [← HD.out]; exact FIN.out, FB.out⟩

end Go.Proofs.YtianjijbmiebgaaGreat

namespace Go.Proofs.YtianjijbmiebgaaGreat
open Go.RowKit

theorem hasSec_any (w : World) (a0 : Option Addr) (n0 c0 : Nat) (v1 v2 v3 : Value) (x : Int) :
 Calls Tryz.prog 224 #[.agg #[.slice a0 n0 c0, v1, v2, v3], .int .i64 x] w fun e w' => e = .returned (.bool (inB x 0 ((n0 : Int) - 1))) /\ Below w.heap.size w w' := by
 have hA : Below w.heap.size w (w.alloc (.cells #[.slice a0 n0 c0, v1, v2, v3] 109)) := (Below.refl _ _).alloc (Nat.le_refl _) _
 have hcell : (w.alloc (.cells #[.slice a0 n0 c0, v1, v2, v3] 109)).cell? ⟨w.heap.size, 0, none⟩ = some (.slice a0 n0 c0) := by
  rw [cell_of_row _ w.heap.size 0 _ _ (0, 0) (heap_alloc_new w _)]
  rfl
 by_cases h0 : 0 <= x
 . by_cases h1 : x < (n0 : Int)
   . go_enter Tryz.func224, Tryz.ntmps224
     go_wp2
     go_ret
     exact ⟨ret_bool (by symm; unfold inB; simp; omega), hA⟩
   . go_enter Tryz.func224, Tryz.ntmps224
     go_wp2
     go_ret
     exact ⟨ret_bool (by symm; unfold inB; simp; omega), hA⟩
 . go_enter Tryz.func224, Tryz.ntmps224
   go_wp2
   go_ret
   exact ⟨ret_bool (by symm; unfold inB; simp; omega), hA⟩

theorem badOk_any (w : World) (a0 : Option Addr) (n0 c0 : Nat) (v1 v2 : Value) (a3 : Option Addr) (n3 c3 : Nat) (bs : List Int) (h3 : tIntS.Rd w [.slice a3 n3 c3] bs) :
 Calls Tryz.prog 225 #[.agg #[.slice a0 n0 c0, v1, v2, .slice a3 n3 c3]] w fun e w' => e = .returned (.bool (badB n0 bs)) /\ Below w.heap.size w w' := by
 obtain ⟨hl3, _, hm3⟩ := row_length h3
 have hA : Below w.heap.size w (w.alloc (.cells #[.slice a0 n0 c0, v1, v2, .slice a3 n3 c3] 109)) := (Below.refl _ _).alloc (Nat.le_refl _) _
 have hcell : ∀ j v, (#[Value.slice a0 n0 c0, v1, v2, .slice a3 n3 c3])[j]? = some v -> (w.alloc (.cells #[.slice a0 n0 c0, v1, v2, .slice a3 n3 c3] 109)).cell? ⟨w.heap.size, j, none⟩ = some v := by
  intro j v hv
  rw [cell_of_row _ w.heap.size j _ _ (0, 0) (heap_alloc_new w _)]
  exact hv
 have k0 := hcell 0 _ rfl
 have k1 := hcell 1 _ rfl
 have k2 := hcell 2 _ rfl
 have k3 := hcell 3 _ rfl
 have g3 := h3.below hA
 have hz : w.heap.size < (w.alloc (.cells #[.slice a0 n0 c0, v1, v2, .slice a3 n3 c3] 109)).heap.size := by simp
 go_enter Tryz.func225, Tryz.ntmps225
 go_wp2
 generalize hW : w.alloc (.cells #[.slice a0 n0 c0, v1, v2, .slice a3 n3 c3] 109) = W at hA k0 k1 k2 k3 g3 hz ⊢
 clear hW hcell h3
 go_loopw [8] (fun i wr => ∃ i3 : Nat, i3 <= n3 /\ i = .int .i64 i3 /\ (List.range i3).all (badAt n0 bs) = true /\ Below W.heap.size W wr) (fun i _ => n3 - (intOf i).toNat)
 case atStart => exact ⟨0, Nat.zero_le _, rfl, rfl, Below.refl _ _⟩
 case round =>
  obtain ⟨i3, hi3, rfl, ht, hs⟩ := hrel
  have q0 := (hs.cell (p := ⟨w.heap.size, 0, none⟩) hz).trans k0
  have q1 := (hs.cell (p := ⟨w.heap.size, 1, none⟩) hz).trans k1
  have q2 := (hs.cell (p := ⟨w.heap.size, 2, none⟩) hz).trans k2
  have q3 := (hs.cell (p := ⟨w.heap.size, 3, none⟩) hz).trans k3
  have hzr : w.heap.size < wr.heap.size := Nat.lt_of_lt_of_le hz hs.size
  by_cases hi3n : i3 < n3
  . obtain ⟨R3, _, _, _⟩ := ints_rd g3
    rcases R3.cases with h0' | ⟨b, off, rfl, hbl, hcs⟩
    . omega
    have hbr : b < wr.heap.size := Nat.lt_of_lt_of_le hbl hs.size
    have p0 := (hs.cell (p := ⟨b, off + i3, none⟩) hbl).trans (hcs i3 (by omega))
    have HT := hidden ht
    have hrs : (List.range (i3 + 1)).all (badAt n0 bs) = ((List.range i3).all (badAt n0 bs) && badAt n0 bs i3) := by rw [List.range_succ, List.all_append]; simp
    have hrn : badAt n0 bs i3 = false -> badB n0 bs = false := by
     intro h
     unfold badB
     rw [List.all_eq_false]
     exact ⟨i3, by simp; omega, by simp [h]⟩
    have hbd : badAt n0 bs i3 = (inB (bs.getD i3 0) 0 ((n0 : Int) - 1) && (decide (i3 = 0) || decide (bs.getD (i3 - 1) 0 < bs.getD i3 0))) := rfl
    have i1 : (0 : Int) <= (i3 : Int) := by omega
    have i2' : (i3 : Int) < (n3 : Int) := by omega
    by_cases hI : inB (bs.getD i3 0) 0 ((n0 : Int) - 1) = true
    . by_cases hz3 : i3 = 0
      . have HD : Hid ((List.range (i3 + 1)).all (badAt n0 bs) = true) := by unfold Hid; rw [hrs, HT.out, hbd, hI, decide_eq_true hz3]; rfl
        generalize bs.getD i3 0 = y at p0 hI
        have d0 : decide ((0 : Int) < (i3 : Int)) = false := decide_eq_false (by omega)
        have d0b : decide (0 < i3) = false := decide_eq_false (by omega)
        have HZ := hidden hz3
        clear hcs ht hrs hrn hbd hz3 R3
        go_wp2_with fail
        refine (hasSec_any _ _ _ _ _ _ _ _).mono ?_
        rintro e w5 ⟨rfl, hb5'⟩
        have r0 := (hb5'.cell (p := ⟨w.heap.size, 0, none⟩) hzr).trans q0
        have r1 := (hb5'.cell (p := ⟨w.heap.size, 1, none⟩) hzr).trans q1
        have r2 := (hb5'.cell (p := ⟨w.heap.size, 2, none⟩) hzr).trans q2
        have r3 := (hb5'.cell (p := ⟨w.heap.size, 3, none⟩) hzr).trans q3
        have hs5 := hs.trans (hb5'.mono hs.size)
        clear q0 q1 q2 q3 hb5'
        go_wp2
        go_roundw
        case rel => exact ⟨i3 + 1, by omega, by go_num, HD.out, hs5⟩
        case measure => simp [intOf]; omega
      . have p1 := (hs.cell (p := ⟨b, off + (i3 - 1), none⟩) hbl).trans (hcs (i3 - 1) (by omega))
        have d0 : decide ((0 : Int) < (i3 : Int)) = true := decide_eq_true (by omega)
        have d0b : decide (0 < i3) = true := decide_eq_true (by omega)
        have gv : IntKind.i64.wrap ((i3 : Int) - 1) = (i3 : Int) - 1 := IntWalk.i64_in _ (by omega)
        have gt : ((i3 : Int) - 1).toNat = i3 - 1 := by omega
        have i3a : (0 : Int) <= (i3 : Int) - 1 := by omega
        have i3b : (i3 : Int) - 1 < (n3 : Int) := by omega
        by_cases hlt : bs.getD (i3 - 1) 0 < bs.getD i3 0
        . have HD : Hid ((List.range (i3 + 1)).all (badAt n0 bs) = true) := by unfold Hid; rw [hrs, HT.out, hbd, hI, decide_eq_true hlt]; simp
          generalize bs.getD i3 0 = y at p0 hI hlt
          generalize bs.getD (i3 - 1) 0 = z at p1 hlt
          have d1 : ¬ y <= z := by omega
          clear hcs ht hrs hrn hbd hz3 R3
          go_wp2_with fail
          refine (hasSec_any _ _ _ _ _ _ _ _).mono ?_
          rintro e w5 ⟨rfl, hb5'⟩
          have r0 := (hb5'.cell (p := ⟨w.heap.size, 0, none⟩) hzr).trans q0
          have r1 := (hb5'.cell (p := ⟨w.heap.size, 1, none⟩) hzr).trans q1
          have r2 := (hb5'.cell (p := ⟨w.heap.size, 2, none⟩) hzr).trans q2
          have r3 := (hb5'.cell (p := ⟨w.heap.size, 3, none⟩) hzr).trans q3
          have p2 := (hb5'.cell (p := ⟨b, off + (i3 - 1), none⟩) hbr).trans p1
          have hs5 := hs.trans (hb5'.mono hs.size)
          clear q0 q1 q2 q3 hb5'
          go_wp2
          go_roundw
          case rel => exact ⟨i3 + 1, by omega, by go_num, HD.out, hs5⟩
          case measure => simp [intOf]; omega
        . have HN := hidden (hrn (by rw [hbd, hI, decide_eq_false hz3, decide_eq_false hlt]; rfl))
          generalize bs.getD i3 0 = y at p0 hI hlt
          generalize bs.getD (i3 - 1) 0 = z at p1 hlt
          have d1 : y <= z := by omega
          clear hcs ht hrs hrn hbd hz3 R3
          go_wp2_with fail
          refine (hasSec_any _ _ _ _ _ _ _ _).mono ?_
          rintro e w5 ⟨rfl, hb5'⟩
          have r0 := (hb5'.cell (p := ⟨w.heap.size, 0, none⟩) hzr).trans q0
          have r1 := (hb5'.cell (p := ⟨w.heap.size, 1, none⟩) hzr).trans q1
          have r2 := (hb5'.cell (p := ⟨w.heap.size, 2, none⟩) hzr).trans q2
          have r3 := (hb5'.cell (p := ⟨w.heap.size, 3, none⟩) hzr).trans q3
          have p2 := (hb5'.cell (p := ⟨b, off + (i3 - 1), none⟩) hbr).trans p1
          have hs5 := hs.trans (hb5'.mono hs.size)
          clear q0 q1 q2 q3 hb5'
          go_wp2
          go_ret
          exact ⟨ret_bool HN.out.symm, Below.andThen hA hs5⟩
    . have hI : inB (bs.getD i3 0) 0 ((n0 : Int) - 1) = false := by simpa using hI
      have HN := hidden (hrn (by rw [hbd, hI]; rfl))
      generalize bs.getD i3 0 = y at p0 hI
      clear hcs ht hrs hrn hbd R3
      go_wp2_with fail
      refine (hasSec_any _ _ _ _ _ _ _ _).mono ?_
      rintro e w5 ⟨rfl, hb5'⟩
      have r0 := (hb5'.cell (p := ⟨w.heap.size, 0, none⟩) hzr).trans q0
      have r1 := (hb5'.cell (p := ⟨w.heap.size, 1, none⟩) hzr).trans q1
      have r2 := (hb5'.cell (p := ⟨w.heap.size, 2, none⟩) hzr).trans q2
      have r3 := (hb5'.cell (p := ⟨w.heap.size, 3, none⟩) hzr).trans q3
      have hs5 := hs.trans (hb5'.mono hs.size)
      clear q0 q1 q2 q3 hb5'
      go_wp2
      go_ret
      exact ⟨ret_bool HN.out.symm, Below.andThen hA hs5⟩
  . have e3 : i3 = n3 := by omega
    have HB : Hid (badB n0 bs = true) := by unfold Hid badB; rw [hl3, ← e3]; exact ht
    clear ht hi3
    go_wp2
    go_ret
    exact ⟨ret_bool HB.out.symm, Below.andThen hA hs⟩

theorem implMemOk_any (w : World) (E : TypeId) (a0 a1 a3 : Option Addr) (n0 c0 n1 c1 n3 c3 : Nat) (ss : List (List Int)) (cs : List (Int × List Int)) (f : Bool) (bs : List Int) (h0 : tIntSS.Rd w [.slice a0 n0 c0] ss) (h1 : (tWrS E).Rd w [.slice a1 n1 c1] cs) (h3 : tIntS.Rd w [.slice a3 n3 c3] bs) (hw : wtMem (ss, cs, f, bs) <= 2097152) :
 Calls Tryz.prog 179 #[.agg #[.slice a0 n0 c0, .slice a1 n1 c1, .bool f, .slice a3 n3 c3]] w fun e w' => e = .returned (.bool (memB ss cs bs)) /\ Below w.heap.size w w' := by
 obtain ⟨hl0, _, hm0⟩ := row_length h0
 obtain ⟨hl1, _, hm1⟩ := row_length h1
 obtain ⟨hl3, _, hm3⟩ := row_length h3
 have hw0 : wtIntSS ss <= 2097152 := by unfold wtMem at hw; simp only at hw; omega
 have hw1 : wtWrS cs <= 2097152 := by unfold wtMem at hw; simp only at hw; omega
 have hA : Below w.heap.size w (w.alloc (.cells #[.slice a0 n0 c0, .slice a1 n1 c1, .bool f, .slice a3 n3 c3] 109)) := (Below.refl _ _).alloc (Nat.le_refl _) _
 have hcell : ∀ j v, (#[Value.slice a0 n0 c0, .slice a1 n1 c1, .bool f, .slice a3 n3 c3])[j]? = some v -> (w.alloc (.cells #[.slice a0 n0 c0, .slice a1 n1 c1, .bool f, .slice a3 n3 c3] 109)).cell? ⟨w.heap.size, j, none⟩ = some v := by
  intro j v hv
  rw [cell_of_row _ w.heap.size j _ _ (0, 0) (heap_alloc_new w _)]
  exact hv
 have k0 := hcell 0 _ rfl
 have k1 := hcell 1 _ rfl
 have k2 := hcell 2 _ rfl
 have k3 := hcell 3 _ rfl
 have g0 := h0.below hA
 have g1 := h1.below hA
 have g3 := h3.below hA
 have hz : w.heap.size < (w.alloc (.cells #[.slice a0 n0 c0, .slice a1 n1 c1, .bool f, .slice a3 n3 c3] 109)).heap.size := by simp
 by_cases c1' : (1 : Int) <= (n0 : Int)
 . by_cases c2' : (n0 : Int) <= 20
   . by_cases c3' : (n1 : Int) <= 60
     . have hI0 : inB (ss.length : Int) 1 20 = true := by unfold inB; rw [hl0]; simp; omega
       have hI1 : decide (cs.length <= 60) = true := decide_eq_true (by omega)
       have HI0 := hidden hI0
       have HI1 := hidden hI1
       clear hI0 hI1
       go_enter Tryz.func179, Tryz.ntmps179
       go_wp2
       generalize hW : w.alloc (.cells #[.slice a0 n0 c0, .slice a1 n1 c1, .bool f, .slice a3 n3 c3] 109) = W at hA k0 k1 k2 k3 g0 g1 g3 hz ⊢
       clear hW hcell h0 h1 h3
       go_loopw [26] (fun i wr => ∃ j : Nat, j <= n0 /\ i = .int .i64 j /\ (ss.take j).all secB = true /\ Same W wr) (fun i _ => n0 - (intOf i).toNat)
       case atStart => exact ⟨0, Nat.zero_le _, rfl, rfl, Same.refl _⟩
       case round =>
        obtain ⟨j, hj, rfl, ht, hs⟩ := hrel
        by_cases hjn : j < n0
        . rcases rows_at rfl g0 with h0' | ⟨b, off, rfl, hbl, hcs⟩
          . omega
          have hdj : ss[j]? = some (ss[j]'(by omega)) := List.getElem?_eq_getElem (by omega)
          generalize ss[j]'(by omega) = x at hdj
          have hal := all_step (p := secB) hdj
          have hil := inner_le hdj
          obtain ⟨v, hv, hrv⟩ := hcs j x hdj
          obtain ⟨av, cv, rfl⟩ := row_shape hrv
          have q1 := (hs.cell ⟨b, off + j, none⟩).trans hv
          obtain ⟨r1, _, _, _⟩ := ints_rd (hrv.same hs)
          have HT := hidden ht
          clear hcs hdj hv hrv ht
          by_cases hx : secB x = true
          . have HD := hidden (hal.1 hx HT.out)
            clear hal
            go_wp2_with fail
            refine (implSecOk_any _ _ _ _ x rfl r1 (by omega)).mono ?_
            rintro e w1 ⟨rfl, hs1⟩
            go_wp2
            go_roundw
            case rel => exact ⟨j + 1, by omega, by go_num, HD.out, hs.trans hs1⟩
            case measure => simp [intOf]; omega
          . have hx : secB x = false := by simpa using hx
            have HN := hidden (hal.2 hx)
            clear hal
            go_wp2_with fail
            refine (implSecOk_any _ _ _ _ x rfl r1 (by omega)).mono ?_
            rintro e w1 ⟨rfl, hs1⟩
            go_wp2
            go_ret
            exact ⟨ret_bool (by unfold memB; rw [HN.out]; rfl), Below.andSame (Below.andSame hA hs) hs1⟩
        . have e : j = n0 := by omega
          subst e
          rw [List.take_of_length_le (by omega)] at ht
          have HS0 := hidden ht
          have hss : ss.length = j := hl0
          have q1 := (hs.cell _).trans k1
          clear ht hj hjn
          go_wp2
          clear q1
          go_loopw [37] (fun i wr => ∃ i2 : Nat, i2 <= n1 /\ i = .int .i64 i2 /\ (cs.take i2).all (wrB j) = true /\ Below W.heap.size W wr) (fun i _ => n1 - (intOf i).toNat)
          case atStart => exact ⟨0, Nat.zero_le _, rfl, rfl, hs.below _⟩
          case round =>
           clear hs
           obtain ⟨i2, hi2, rfl, ht, hs⟩ := hrel
           have hzr : w.heap.size < wr.heap.size := Nat.lt_of_lt_of_le hz hs.size
           have q0 := (hs.cell (p := ⟨w.heap.size, 0, none⟩) hz).trans k0
           have q1 := (hs.cell (p := ⟨w.heap.size, 1, none⟩) hz).trans k1
           have q2 := (hs.cell (p := ⟨w.heap.size, 2, none⟩) hz).trans k2
           have q3 := (hs.cell (p := ⟨w.heap.size, 3, none⟩) hz).trans k3
           by_cases hin : i2 < n1
           . rcases pairs_at rfl g1 with h0' | ⟨b, off, rfl, hbl, hcs⟩
             . omega
             have hdj : cs[i2]? = some (cs[i2]'(by omega)) := List.getElem?_eq_getElem (by omega)
             generalize cs[i2]'(by omega) = x at hdj
             have hal := all_step (p := wrB j) hdj
             have hil := inner_le' hdj
             obtain ⟨v0, v1, hv0, hv1, hrv⟩ := hcs i2 x hdj
             obtain ⟨rfl, hrv'⟩ := wr_rd hrv
             obtain ⟨av, cv, rfl⟩ := row_shape hrv'
             have p0 := (hs.cell (p := ⟨b, off + i2 * 2, none⟩) hbl).trans hv0
             have p1 := (hs.cell (p := ⟨b, off + i2 * 2 + 1, none⟩) hbl).trans hv1
             have r0 := hrv'.below hs
             obtain ⟨x0, x1⟩ := x
             simp only at p0 p1 r0 hil
             have HT := hidden ht
             clear hcs hdj hv0 hv1 hrv hrv' ht
             have hB : Below wr.heap.size wr (wr.alloc (.cells #[.int .i64 x0, .slice av x1.length cv] 159)) := (Below.refl _ _).alloc (Nat.le_refl _) _
             have s0 : (wr.alloc (.cells #[.int .i64 x0, .slice av x1.length cv] 159)).cell? ⟨wr.heap.size, 1, none⟩ = some (.slice av x1.length cv) := by
              rw [cell_of_row _ wr.heap.size 1 _ _ (0, 0) (heap_alloc_new wr _)]
              rfl
             have zb : wr.heap.size < (wr.alloc (.cells #[.int .i64 x0, .slice av x1.length cv] 159)).heap.size := by simp
             have HB := hidden hB
             have S0 := hidden s0
             have ZB := hidden zb
             clear hB s0 zb
             by_cases hI : inB x0 0 ((j : Int) - 1) = true
             . by_cases hx : secB x1 = true
               . have HD := hidden (hal.1 (by unfold wrB; simp only; rw [hI, hx]; rfl) HT.out)
                 clear hal
                 go_wp2_with fail
                 refine (hasSec_any _ _ _ _ _ _ _ _).mono ?_
                 rintro e w5 ⟨rfl, hb5⟩
                 have HB6 := hidden (Below.andThen HB.out hb5)
                 have s1 := (hb5.cell (p := ⟨wr.heap.size, 1, none⟩) ZB.out).trans S0.out
                 clear hb5
                 go_wp2_with fail
                 refine (implSecOk_any _ _ _ _ x1 rfl (ints_rd (r0.below HB6.out)).1 (by omega)).mono ?_
                 rintro e w6 ⟨rfl, hs6⟩
                 go_wp2
                 go_roundw
                 case rel => exact ⟨i2 + 1, by omega, by go_num, HD.out, (hs.trans (HB6.out.mono hs.size)).trans (hs6.below _)⟩
                 case measure => simp [intOf]; omega
               . have hx : secB x1 = false := by simpa using hx
                 have HN := hidden (hal.2 (by unfold wrB; simp only; rw [hI, hx]; rfl))
                 clear hal
                 go_wp2_with fail
                 refine (hasSec_any _ _ _ _ _ _ _ _).mono ?_
                 rintro e w5 ⟨rfl, hb5⟩
                 have HB6 := hidden (Below.andThen HB.out hb5)
                 have s1 := (hb5.cell (p := ⟨wr.heap.size, 1, none⟩) ZB.out).trans S0.out
                 clear hb5
                 go_wp2_with fail
                 refine (implSecOk_any _ _ _ _ x1 rfl (ints_rd (r0.below HB6.out)).1 (by omega)).mono ?_
                 rintro e w6 ⟨rfl, hs6⟩
                 go_wp2
                 go_ret
                 exact ⟨ret_bool (by unfold memB; rw [hss, HN.out, HS0.out]; rfl), Below.andSame (Below.andThen hA (hs.trans (HB6.out.mono hs.size))) hs6⟩
             . have hI : inB x0 0 ((j : Int) - 1) = false := by simpa using hI
               have HN := hidden (hal.2 (by unfold wrB; simp only; rw [hI]; rfl))
               clear hal
               go_wp2_with fail
               refine (hasSec_any _ _ _ _ _ _ _ _).mono ?_
               rintro e w5 ⟨rfl, hb5⟩
               have HB6 := hidden (Below.andThen HB.out hb5)
               clear hb5
               go_wp2
               go_ret
               exact ⟨ret_bool (by unfold memB; rw [hss, HN.out, HS0.out]; rfl), Below.andThen hA (hs.trans (HB6.out.mono hs.size))⟩
           . have e2 : i2 = n1 := by omega
             subst e2
             rw [List.take_of_length_le (by omega)] at ht
             have HS1 := hidden ht
             clear ht hi2 hin
             have g3' := g3.below hs
             go_wp2_with fail
             refine (badOk_any _ _ _ _ _ _ _ _ _ bs g3').mono ?_
             rintro e w5 ⟨rfl, hb5⟩
             go_wp2
             go_ret
             exact ⟨ret_bool (by unfold memB; rw [HI0.out, HI1.out, hss, HS1.out, HS0.out]; simp), Below.andThen (Below.andThen hA hs) hb5⟩
     . have hI1 : decide (cs.length <= 60) = false := decide_eq_false (by omega)
       have HI1 := hidden hI1
       clear hI1
       go_enter Tryz.func179, Tryz.ntmps179
       go_wp2
       go_ret
       exact ⟨ret_bool (by unfold memB; rw [HI1.out]; simp), hA⟩
   . have hI0 : inB (ss.length : Int) 1 20 = false := by unfold inB; rw [hl0]; simp; omega
     have HI0 := hidden hI0
     clear hI0
     go_enter Tryz.func179, Tryz.ntmps179
     go_wp2
     go_ret
     exact ⟨ret_bool (by unfold memB; rw [HI0.out]; simp), hA⟩
 . have hI0 : inB (ss.length : Int) 1 20 = false := by unfold inB; rw [hl0]; simp; omega
   have HI0 := hidden hI0
   clear hI0
   go_enter Tryz.func179, Tryz.ntmps179
   go_wp2
   go_ret
   exact ⟨ret_bool (by unfold memB; rw [HI0.out]; simp), hA⟩

def flSS (ss : List (List Int)) (cs : List (Int × List Int)) (f : Bool) (bs : List Int) : List (List Int) := if (memB ss cs bs && !f) = true then flushD ss cs else ss
def flCS (ss : List (List Int)) (cs : List (Int × List Int)) (f : Bool) (bs : List Int) : List (Int × List Int) := if (memB ss cs bs && !f) = true then [] else cs
theorem mem_slices {w : World} {E : TypeId} {lo hi : Nat} {v0 v1 v3 : Value} {f : Bool} {d : (tMem E).D} (h : (tMem E).Own w lo hi [v0, v1, .bool f, v3] d) : ∃ a0 l0 c0 a1 l1 c1 a3 l3 c3, v0 = .slice a0 l0 c0 /\ v1 = .slice a1 l1 c1 /\ v3 = .slice a3 l3 c3 := by
 obtain ⟨a0, c0, a1, c1, a3, c3, h0, h1, _, h3, _⟩ := mem_rd h.rd
 exact ⟨a0, _, c0, a1, _, c1, a3, _, c3, h0, h1, h3⟩

theorem implFlushMem_any (w : World) (E : TypeId) (a0 a1 a3 : Option Addr) (n0 c0 n1 c1 n3 c3 : Nat) (ss : List (List Int)) (cs : List (Int × List Int)) (f : Bool) (bs : List Int) (h0 : tIntSS.Rd w [.slice a0 n0 c0] ss) (h1 : (tWrS E).Rd w [.slice a1 n1 c1] cs) (h3 : tIntS.Rd w [.slice a3 n3 c3] bs) (hw : wtMem (ss, cs, f, bs) <= 2097152) :
 Calls Tryz.prog 227 #[.agg #[.slice a0 n0 c0, .slice a1 n1 c1, .bool f, .slice a3 n3 c3]] w fun e w' => ∃ v0 v1 v3, e = .returned (.agg #[v0, v1, .bool f, v3]) /\ (tMem 159).Own w' w.heap.size w'.heap.size [v0, v1, .bool f, v3] (flSS ss cs f bs, flCS ss cs f bs, f, bs) /\ Below w.heap.size w w' := by
 obtain ⟨hl0, _, hm0⟩ := row_length h0
 obtain ⟨hl1, _, hm1⟩ := row_length h1
 obtain ⟨hl3, _, hm3⟩ := row_length h3
 have hwc : wtWrS cs <= 2097152 := by unfold wtMem at hw; simp only at hw; omega
 by_cases hM : memB ss cs bs = true
 . have hn20 : n0 <= 20 := by have := mem_secs hM; omega
   have hks := mem_writes hM
   by_cases hf : f = true
   . subst hf
     have e1 : flSS ss cs true bs = ss := by unfold flSS; simp
     have e2 : flCS ss cs true bs = cs := by unfold flCS; simp
     rw [e1, e2]
     clear e1 e2
     have hA : Below w.heap.size w ((w.alloc (.cells #[.slice a0 n0 c0, .slice a1 n1 c1, .bool true, .slice a3 n3 c3] 109)).alloc (.cells #[.slice none 0 0, .slice none 0 0, .bool false, .slice none 0 0] 109)) := ((Below.refl _ _).alloc (Nat.le_refl _) _).alloc (by simp) _
     have xm : Box ((w.alloc (.cells #[.slice a0 n0 c0, .slice a1 n1 c1, .bool true, .slice a3 n3 c3] 109)).alloc (.cells #[.slice none 0 0, .slice none 0 0, .bool false, .slice none 0 0] 109)) w.heap.size 109 #[.slice a0 n0 c0, .slice a1 n1 c1, .bool true, .slice a3 n3 c3] := (Box.new w _ _).alloc _
     have xr : Box ((w.alloc (.cells #[.slice a0 n0 c0, .slice a1 n1 c1, .bool true, .slice a3 n3 c3] 109)).alloc (.cells #[.slice none 0 0, .slice none 0 0, .bool false, .slice none 0 0] 109)) (w.heap.size + 1) 109 #[.slice none 0 0, .slice none 0 0, .bool false, .slice none 0 0] := by
      have := Box.new (w.alloc (.cells #[.slice a0 n0 c0, .slice a1 n1 c1, .bool true, .slice a3 n3 c3] 109)) 109 #[.slice none 0 0, .slice none 0 0, .bool false, .slice none 0 0]
      rw [show (w.alloc (.cells #[.slice a0 n0 c0, .slice a1 n1 c1, .bool true, .slice a3 n3 c3] 109)).heap.size = w.heap.size + 1 by simp] at this
      exact this
     go_enter Tryz.func227, Tryz.ntmps227
     go_wp2_with fail
     generalize hW : (w.alloc (.cells #[.slice a0 n0 c0, .slice a1 n1 c1, .bool true, .slice a3 n3 c3] 109)).alloc (.cells #[.slice none 0 0, .slice none 0 0, .bool false, .slice none 0 0] 109) = W at hA xm xr ⊢
     clear hW
     have zr := xr.lt
     obtain ⟨q0, q1, q2, q3⟩ := xm.cells4
     have XM := hidden xm
     have XR := hidden xr
     clear xm xr
     refine (implMemOk_any _ E _ _ _ _ _ _ _ _ _ ss cs true bs (h0.below hA) (h1.below hA) (h3.below hA) hw).mono ?_
     rintro e w1 ⟨rfl, b1⟩
     have z1 := b1.size
     have XM1 := hidden (XM.out.below b1 (by omega))
     have XR1 := hidden (XR.out.below b1 (by omega))
     have B1 := hidden (hA.trans (b1.mono (by omega)))
     clear q0 q1 q2 q3 XM XR b1 hA
     obtain ⟨q0, q1, q2, q3⟩ := XM1.out.cells4
     go_wp2_with fail
     refine (copyMem_any _ E _ _ _ _ _ _ _ _ _ ss cs true bs (h0.below B1.out) (h1.below B1.out) (h3.below B1.out) hw).mono ?_
     intro e w2 hc
     obtain ⟨b0, b1, b3, e0, e1, e3, m1, m2, rfl, o3, o0, o1, r1, r2, r3, bb⟩ := copy_shapes hl0 hl1 hl3 hc
     clear hc
     have z2 := bb.size
     clear q0 q1 q2 q3
     obtain ⟨p0, p1, p2, p3⟩ := (XR1.out.below bb (by omega)).cells4
     have fz := (XR1.out.below bb (by omega)).frozen
     have KB := B1.out.trans (bb.mono (by omega))
     have hbt : But (w.heap.size + 1) (w.heap.size + 2) w2 ((((w2.setCell ⟨w.heap.size + 1, 0, none⟩ (.slice b0 n0 e0)).setCell ⟨w.heap.size + 1, 1, none⟩ (.slice b1 n1 e1)).setCell ⟨w.heap.size + 1, 2, none⟩ (.bool true)).setCell ⟨w.heap.size + 1, 3, none⟩ (.slice b3 n3 e3)) :=
      (((But.setCell (by omega) (by omega) _).trans (But.setCell (by omega) (by omega) _)).trans (But.setCell (by omega) (by omega) _)).trans (But.setCell (by omega) (by omega) _)
     have z9 := hbt.size
     have FIN : Hid ((tMem 159).Own ((((w2.setCell ⟨w.heap.size + 1, 0, none⟩ (.slice b0 n0 e0)).setCell ⟨w.heap.size + 1, 1, none⟩ (.slice b1 n1 e1)).setCell ⟨w.heap.size + 1, 2, none⟩ (.bool true)).setCell ⟨w.heap.size + 1, 3, none⟩ (.slice b3 n3 e3)) w.heap.size ((((w2.setCell ⟨w.heap.size + 1, 0, none⟩ (.slice b0 n0 e0)).setCell ⟨w.heap.size + 1, 1, none⟩ (.slice b1 n1 e1)).setCell ⟨w.heap.size + 1, 2, none⟩ (.bool true)).setCell ⟨w.heap.size + 1, 3, none⟩ (.slice b3 n3 e3)).heap.size [.slice b0 n0 e0, .slice b1 n1 e1, .bool true, .slice b3 n3 e3] (ss, cs, true, bs)) := mem_own3 (o0.but hbt (by omega)) (o1.but hbt (by omega)) (o3.but hbt (by omega)) (by omega) (by omega) (by omega) (by omega) (by omega) (by omega)
     have FB := hidden (Below.andBut KB hbt (by omega))
     clear hbt KB bb o0 o1 o3
     go_wp2
     refine bodyPost_ret (v := .agg #[.slice b0 n0 e0, .slice b1 n1 e1, .bool true, .slice b3 n3 e3]) (by simp [results, Tryz.results227, go_sem, p0, p1, p2, p3]) rfl ?_
     exact ⟨_, _, _, rfl, FIN.out, FB.out⟩
   . have hf : f = false := by simpa using hf
     subst hf
     have e1 : flSS ss cs false bs = flushD ss cs := by unfold flSS; simp [hM]
     have e2 : flCS ss cs false bs = [] := by unfold flCS; simp [hM]
     rw [e1, e2]
     clear e1 e2
     have hA : Below w.heap.size w ((w.alloc (.cells #[.slice a0 n0 c0, .slice a1 n1 c1, .bool false, .slice a3 n3 c3] 109)).alloc (.cells #[.slice none 0 0, .slice none 0 0, .bool false, .slice none 0 0] 109)) := ((Below.refl _ _).alloc (Nat.le_refl _) _).alloc (by simp) _
     have xm : Box ((w.alloc (.cells #[.slice a0 n0 c0, .slice a1 n1 c1, .bool false, .slice a3 n3 c3] 109)).alloc (.cells #[.slice none 0 0, .slice none 0 0, .bool false, .slice none 0 0] 109)) w.heap.size 109 #[.slice a0 n0 c0, .slice a1 n1 c1, .bool false, .slice a3 n3 c3] := (Box.new w _ _).alloc _
     have xr : Box ((w.alloc (.cells #[.slice a0 n0 c0, .slice a1 n1 c1, .bool false, .slice a3 n3 c3] 109)).alloc (.cells #[.slice none 0 0, .slice none 0 0, .bool false, .slice none 0 0] 109)) (w.heap.size + 1) 109 #[.slice none 0 0, .slice none 0 0, .bool false, .slice none 0 0] := by
      have := Box.new (w.alloc (.cells #[.slice a0 n0 c0, .slice a1 n1 c1, .bool false, .slice a3 n3 c3] 109)) 109 #[.slice none 0 0, .slice none 0 0, .bool false, .slice none 0 0]
      rw [show (w.alloc (.cells #[.slice a0 n0 c0, .slice a1 n1 c1, .bool false, .slice a3 n3 c3] 109)).heap.size = w.heap.size + 1 by simp] at this
      exact this
     go_enter Tryz.func227, Tryz.ntmps227
     go_wp2_with fail
     generalize hW : (w.alloc (.cells #[.slice a0 n0 c0, .slice a1 n1 c1, .bool false, .slice a3 n3 c3] 109)).alloc (.cells #[.slice none 0 0, .slice none 0 0, .bool false, .slice none 0 0] 109) = W at hA xm xr ⊢
     clear hW
     have zr := xr.lt
     obtain ⟨q0, q1, q2, q3⟩ := xm.cells4
     have XM := hidden xm
     have XR := hidden xr
     clear xm xr
     refine (implMemOk_any _ E _ _ _ _ _ _ _ _ _ ss cs false bs (h0.below hA) (h1.below hA) (h3.below hA) hw).mono ?_
     rintro e w1 ⟨rfl, b1⟩
     have z1 := b1.size
     have XM1 := hidden (XM.out.below b1 (by omega))
     have XR1 := hidden (XR.out.below b1 (by omega))
     have B1 := hidden (hA.trans (b1.mono (by omega)))
     clear q0 q1 q2 q3 XM XR b1 hA
     obtain ⟨q0, q1, q2, q3⟩ := XM1.out.cells4
     go_wp2_with fail
     refine (settle_any _ E E _ _ _ _ _ _ _ _ _ _ _ _ ss cs false bs (h0.below B1.out) (h1.below B1.out) (h3.below B1.out) hw cs (h1.below B1.out) hwc hks hn20).mono ?_
     rintro e w2 ⟨v0, v1, v3, rfl, o2, bb⟩
     obtain ⟨d0, l0, e0, d1, l1, e1, d3, l3, e3, hv0, hv1, hv3⟩ := mem_slices o2
     subst hv0 hv1 hv3
     have z2 := bb.size
     clear q0 q1 q2 q3
     obtain ⟨p0, p1, p2, p3⟩ := (XR1.out.below bb (by omega)).cells4
     have fz := (XR1.out.below bb (by omega)).frozen
     have KB := B1.out.trans (bb.mono (by omega))
     have hbt : But (w.heap.size + 1) (w.heap.size + 2) w2 ((((w2.setCell ⟨w.heap.size + 1, 0, none⟩ (.slice d0 l0 e0)).setCell ⟨w.heap.size + 1, 1, none⟩ (.slice d1 l1 e1)).setCell ⟨w.heap.size + 1, 2, none⟩ (.bool false)).setCell ⟨w.heap.size + 1, 3, none⟩ (.slice d3 l3 e3)) :=
      (((But.setCell (by omega) (by omega) _).trans (But.setCell (by omega) (by omega) _)).trans (But.setCell (by omega) (by omega) _)).trans (But.setCell (by omega) (by omega) _)
     have z9 := hbt.size
     have FIN : Hid ((tMem 159).Own ((((w2.setCell ⟨w.heap.size + 1, 0, none⟩ (.slice d0 l0 e0)).setCell ⟨w.heap.size + 1, 1, none⟩ (.slice d1 l1 e1)).setCell ⟨w.heap.size + 1, 2, none⟩ (.bool false)).setCell ⟨w.heap.size + 1, 3, none⟩ (.slice d3 l3 e3)) w.heap.size ((((w2.setCell ⟨w.heap.size + 1, 0, none⟩ (.slice d0 l0 e0)).setCell ⟨w.heap.size + 1, 1, none⟩ (.slice d1 l1 e1)).setCell ⟨w.heap.size + 1, 2, none⟩ (.bool false)).setCell ⟨w.heap.size + 1, 3, none⟩ (.slice d3 l3 e3)).heap.size [.slice d0 l0 e0, .slice d1 l1 e1, .bool false, .slice d3 l3 e3] (flushD ss cs, [], false, bs)) := (o2.but hbt (.inr (by omega))).widen (by omega) z9
     have FB := hidden (Below.andBut KB hbt (by omega))
     clear hbt KB bb o2
     go_wp2
     refine bodyPost_ret (v := .agg #[.slice d0 l0 e0, .slice d1 l1 e1, .bool false, .slice d3 l3 e3]) (by simp [results, Tryz.results227, go_sem, p0, p1, p2, p3]) rfl ?_
     exact ⟨_, _, _, rfl, FIN.out, FB.out⟩
 . have hM : memB ss cs bs = false := by simpa using hM
   have e1 : flSS ss cs f bs = ss := by unfold flSS; simp [hM]
   have e2 : flCS ss cs f bs = cs := by unfold flCS; simp [hM]
   rw [e1, e2]
   clear e1 e2
   have hA : Below w.heap.size w ((w.alloc (.cells #[.slice a0 n0 c0, .slice a1 n1 c1, .bool f, .slice a3 n3 c3] 109)).alloc (.cells #[.slice none 0 0, .slice none 0 0, .bool false, .slice none 0 0] 109)) := ((Below.refl _ _).alloc (Nat.le_refl _) _).alloc (by simp) _
   have xm : Box ((w.alloc (.cells #[.slice a0 n0 c0, .slice a1 n1 c1, .bool f, .slice a3 n3 c3] 109)).alloc (.cells #[.slice none 0 0, .slice none 0 0, .bool false, .slice none 0 0] 109)) w.heap.size 109 #[.slice a0 n0 c0, .slice a1 n1 c1, .bool f, .slice a3 n3 c3] := (Box.new w _ _).alloc _
   have xr : Box ((w.alloc (.cells #[.slice a0 n0 c0, .slice a1 n1 c1, .bool f, .slice a3 n3 c3] 109)).alloc (.cells #[.slice none 0 0, .slice none 0 0, .bool false, .slice none 0 0] 109)) (w.heap.size + 1) 109 #[.slice none 0 0, .slice none 0 0, .bool false, .slice none 0 0] := by
    have := Box.new (w.alloc (.cells #[.slice a0 n0 c0, .slice a1 n1 c1, .bool f, .slice a3 n3 c3] 109)) 109 #[.slice none 0 0, .slice none 0 0, .bool false, .slice none 0 0]
    rw [show (w.alloc (.cells #[.slice a0 n0 c0, .slice a1 n1 c1, .bool f, .slice a3 n3 c3] 109)).heap.size = w.heap.size + 1 by simp] at this
    exact this
   go_enter Tryz.func227, Tryz.ntmps227
   go_wp2_with fail
   generalize hW : (w.alloc (.cells #[.slice a0 n0 c0, .slice a1 n1 c1, .bool f, .slice a3 n3 c3] 109)).alloc (.cells #[.slice none 0 0, .slice none 0 0, .bool false, .slice none 0 0] 109) = W at hA xm xr ⊢
   clear hW
   have zr := xr.lt
   obtain ⟨q0, q1, q2, q3⟩ := xm.cells4
   have XM := hidden xm
   have XR := hidden xr
   clear xm xr
   refine (implMemOk_any _ E _ _ _ _ _ _ _ _ _ ss cs f bs (h0.below hA) (h1.below hA) (h3.below hA) hw).mono ?_
   rintro e w1 ⟨rfl, b1⟩
   have z1 := b1.size
   have XM1 := hidden (XM.out.below b1 (by omega))
   have XR1 := hidden (XR.out.below b1 (by omega))
   have B1 := hidden (hA.trans (b1.mono (by omega)))
   clear q0 q1 q2 q3 XM XR b1 hA
   obtain ⟨q0, q1, q2, q3⟩ := XM1.out.cells4
   go_wp2_with fail
   refine (copyMem_any _ E _ _ _ _ _ _ _ _ _ ss cs f bs (h0.below B1.out) (h1.below B1.out) (h3.below B1.out) hw).mono ?_
   intro e w2 hc
   obtain ⟨b0, b1, b3, e0, e1, e3, m1, m2, rfl, o3, o0, o1, r1, r2, r3, bb⟩ := copy_shapes hl0 hl1 hl3 hc
   clear hc
   have z2 := bb.size
   clear q0 q1 q2 q3
   obtain ⟨p0, p1, p2, p3⟩ := (XR1.out.below bb (by omega)).cells4
   have fz := (XR1.out.below bb (by omega)).frozen
   have KB := B1.out.trans (bb.mono (by omega))
   have hbt : But (w.heap.size + 1) (w.heap.size + 2) w2 ((((w2.setCell ⟨w.heap.size + 1, 0, none⟩ (.slice b0 n0 e0)).setCell ⟨w.heap.size + 1, 1, none⟩ (.slice b1 n1 e1)).setCell ⟨w.heap.size + 1, 2, none⟩ (.bool f)).setCell ⟨w.heap.size + 1, 3, none⟩ (.slice b3 n3 e3)) :=
    (((But.setCell (by omega) (by omega) _).trans (But.setCell (by omega) (by omega) _)).trans (But.setCell (by omega) (by omega) _)).trans (But.setCell (by omega) (by omega) _)
   have z9 := hbt.size
   have FIN : Hid ((tMem 159).Own ((((w2.setCell ⟨w.heap.size + 1, 0, none⟩ (.slice b0 n0 e0)).setCell ⟨w.heap.size + 1, 1, none⟩ (.slice b1 n1 e1)).setCell ⟨w.heap.size + 1, 2, none⟩ (.bool f)).setCell ⟨w.heap.size + 1, 3, none⟩ (.slice b3 n3 e3)) w.heap.size ((((w2.setCell ⟨w.heap.size + 1, 0, none⟩ (.slice b0 n0 e0)).setCell ⟨w.heap.size + 1, 1, none⟩ (.slice b1 n1 e1)).setCell ⟨w.heap.size + 1, 2, none⟩ (.bool f)).setCell ⟨w.heap.size + 1, 3, none⟩ (.slice b3 n3 e3)).heap.size [.slice b0 n0 e0, .slice b1 n1 e1, .bool f, .slice b3 n3 e3] (ss, cs, f, bs)) := mem_own3 (o0.but hbt (by omega)) (o1.but hbt (by omega)) (o3.but hbt (by omega)) (by omega) (by omega) (by omega) (by omega) (by omega) (by omega)
   have FB := hidden (Below.andBut KB hbt (by omega))
   clear hbt KB bb o0 o1 o3
   go_wp2
   refine bodyPost_ret (v := .agg #[.slice b0 n0 e0, .slice b1 n1 e1, .bool f, .slice b3 n3 e3]) (by simp [results, Tryz.results227, go_sem, p0, p1, p2, p3]) rfl ?_
   exact ⟨_, _, _, rfl, FIN.out, FB.out⟩

theorem ints_row {w : World} {v : Value} {zs : List Int} {f : List Nat} (h : tIntS.ow w [v] zs f) : (v = .slice none 0 0 /\ zs = [] /\ f = []) ∨ ∃ g cap, v = .slice (some ⟨g, 0, none⟩) zs.length cap /\ f = [g] /\ Go.Proofs.YtianjijbmiebgaaGreat.Own .i64 3 w g (g + 1) v zs := by
 rcases h with ⟨h1, h2, h3⟩ | ⟨b, cap, cur, fps, h1, h2, h3, h4, h5, h6, h7, h8⟩
 . exact .inl ⟨by simpa using h1, h2, h3⟩
 . have hv : v = .slice (some ⟨b, 0, none⟩) zs.length cap := by simpa using h1
   have hfl : fps.flatten = [] := by
    rw [List.flatten_eq_nil_iff]
    intro f' hf'
    obtain ⟨i, hi⟩ := List.mem_iff_getElem?.1 hf'
    have hil : i < zs.length := by rw [← h7]; exact (List.getElem?_eq_some_iff.1 hi).1
    obtain ⟨f2, hf2, _, h10⟩ := h8 i _ (List.getElem?_eq_getElem hil)
    rw [hi] at hf2
    simp at hf2
    rw [hf2]
    exact h10
   have h5' : cur.size = cap * 1 := h5
   refine .inr ⟨b, cap, hv, by rw [h6, hfl], ⟨by simp, .inr ⟨b, cap, cur, hv, Nat.le_refl _, h4, h2, by unfold maxLen; exact h3, h5', ?_⟩⟩, fun g hg => by rw [hv] at hg; simp [Value.ownBlock] at hg; omega⟩
   apply List.ext_getElem?
   intro i
   rw [List.getElem?_take, List.getElem?_map]
   by_cases hi : i < zs.length
   . obtain ⟨f2, _, h9, _⟩ := h8 i _ (List.getElem?_eq_getElem hi)
     have h9' : (cur.toList.drop (i * 1)).take 1 = [.int .i64 zs[i]] := h9
     have : ((cur.toList.drop (i * 1)).take 1)[0]? = some (.int .i64 zs[i]) := by rw [h9']; rfl
     rw [List.getElem?_take, if_pos (by omega), List.getElem?_drop] at this
     rw [if_pos (by omega), List.getElem?_eq_getElem hi]
     simpa using this
   . rw [if_neg (by omega), List.getElem?_eq_none (by omega)]
     rfl

def filt (zs : List Int) (n : Int) : List Int := zs.filter fun x => decide (x ≠ n)
theorem filt_none {zs : List Int} {n : Int} (h : ∀ x ∈ zs, x ≠ n) : filt zs n = zs := by
 unfold filt
 rw [List.filter_eq_self]
 intro x hx
 simp [h x hx]
theorem filt_snoc (zs : List Int) (x n : Int) : filt (zs ++ [x]) n = if x = n then filt zs n else filt zs n ++ [x] := by
 unfold filt
 rw [List.filter_append]
 by_cases h : x = n <;> simp [h]
theorem filt_length (zs : List Int) (n : Int) : (filt zs n).length <= zs.length := List.length_filter_le _ _

theorem mine_of_own {w : World} {g n cap : Nat} {zs : List Int} (h : Own .i64 3 w g (g + 1) (.slice (some ⟨g, 0, none⟩) n cap) zs) : tIntS.Own w g (g + 1) [.slice (some ⟨g, 0, none⟩) n cap] zs := by
 obtain ⟨fp, m1, m2⟩ := mine_ints h.1
 exact m1.own (fun b hb => by
  have := (m2 b hb).1
  simp [Value.ownBlock] at this
  omega)

theorem Own.zeros {g n cap : Nat} : ∀ (k i : Nat) (w : World) (L : List Int), Own .i64 3 w g (g + 1) (.slice (some ⟨g, 0, none⟩) n cap) L -> i + k <= n -> ∃ L', Own .i64 3 (w.setCells g i (List.replicate k (.int .i64 0))) g (g + 1) (.slice (some ⟨g, 0, none⟩) n cap) L' /\ L'.take i = L.take i /\ But g (g + 1) w (w.setCells g i (List.replicate k (.int .i64 0)))
 | 0, i, w, L, h, _ => ⟨L, h, rfl, But.refl _ _ _⟩
 | k + 1, i, w, L, h, hk => by
  obtain ⟨_, _, h1, h2⟩ := h.store i (by omega) 0
  obtain ⟨L', h3, h4, h5⟩ := Own.zeros k (i + 1) _ _ h1 (by omega)
  refine ⟨L', h3, ?_, h2.trans h5⟩
  have := congrArg (List.take i) h4
  rw [List.take_take, List.take_take, Nat.min_eq_left (by omega)] at this
  rw [this]
  apply List.ext_getElem?
  intro m
  rw [List.getElem?_take, List.getElem?_take]
  by_cases hm : m < i
  . rw [if_pos hm, if_pos hm, List.getElem?_set_ne (by omega)]
  . rw [if_neg hm, if_neg hm]
theorem Own.cut {w : World} {g n cap i : Nat} {L : List Int} (h : Own .i64 3 w g (g + 1) (.slice (some ⟨g, 0, none⟩) n cap) L) (hi : i <= n) : Own .i64 3 w g (g + 1) (.slice (some ⟨g, 0, none⟩) i cap) (L.take i) := by
 have hl := h.length
 obtain ⟨h1, h2⟩ := h
 refine ⟨⟨by simp, ?_⟩, fun b hb => by simp [Value.ownBlock] at hb; omega⟩
 rcases h1.2 with ⟨hv, _⟩ | ⟨g', cap', cur, hv, hb, hg, hnc, hcm, hcs, ht⟩
 . simp at hv
 . simp only [Value.slice.injEq, Option.some.injEq, Addr.mk.injEq, and_true] at hv
   obtain ⟨rfl, hv2, rfl⟩ := hv
   refine .inr ⟨g, cap, cur, by rw [List.length_take, Nat.min_eq_left (by omega)], hb, hg, by rw [List.length_take]; omega, hcm, hcs, ?_⟩
   rw [List.length_take, Nat.min_eq_left (by omega), List.map_take, ← ht, List.take_take, hl]
   congr 1
   omega

theorem del_any (w : World) (b n : Int) (B : Nat) (hc : w.cell? ⟨B, 0, none⟩ = some (.int .i64 n)) :
 Calls Tryz.prog 246 #[.int .i64 b, .pointer (some ⟨B, 0, none⟩)] w fun e w' => e = .returned (.bool (decide (b = n))) /\ Same w w' := by
 go_enter Tryz.func246, Tryz.ntmps246
 go_wp2
 go_ret
 exact ⟨ret_bool (by by_cases h : b = n <;> simp [h]), Same.refl _⟩

theorem indexFunc_any (w : World) (a : Option Addr) (len cap : Nat) (zs : List Int) (n : Int) (B : Nat) (hc : w.cell? ⟨B, 0, none⟩ = some (.int .i64 n)) (hz : zs.length = len) (hr : Reads .i64 w a zs) (hlen : len <= 2097152) :
 Calls Tryz.prog 252 #[.slice a len cap, .func (Fn.func 246) #[] #[.pointer (some ⟨B, 0, none⟩)]] w fun e w' => ((e = .returned (.int .i64 (-1)) /\ ∀ x ∈ zs, x ≠ n) ∨ ∃ j, j < len /\ e = .returned (.int .i64 j) /\ zs[j]? = some n /\ ∀ x ∈ zs.take j, x ≠ n) /\ Same w w' := by
 go_enter Tryz.func252, Tryz.ntmps252
 go_wp2
 go_loopw [8] (fun i wr => ∃ j : Nat, j <= len /\ i = .int .i64 j /\ (∀ x ∈ zs.take j, x ≠ n) /\ Same w wr) (fun i _ => len - (intOf i).toNat)
 case atStart => exact ⟨0, Nat.zero_le _, rfl, by simp, Same.refl _⟩
 case round =>
  obtain ⟨j, hj, rfl, ht, hs⟩ := hrel
  by_cases hlt : j < len
  . rcases hr.cases with h0 | ⟨b, off, rfl, hbl, hcz⟩
    . omega
    have hc1 := (hs.cell _).trans (hcz j (by omega))
    have hx : zs[j]? = some (zs.getD j 0) := by rw [List.getD_eq_getElem?_getD, List.getElem?_eq_getElem (by omega)]; rfl
    have htk : zs.take (j + 1) = zs.take j ++ [zs.getD j 0] := by rw [List.take_add_one, hx]; rfl
    generalize zs.getD j 0 = x at hc1 hx htk
    have hcc := (hs.cell ⟨B, 0, none⟩).trans hc
    have HT := hidden ht
    have HTK := hidden htk
    have HX := hidden hx
    clear hcz ht htk hx
    go_wp2_with fail
    refine (del_any _ _ n B hcc).mono ?_
    rintro e w1 ⟨rfl, hs1⟩
    by_cases hxn : x = n
    . subst hxn
      have hd : decide (x = x) = true := by simp
      go_wp2
      go_ret
      exact ⟨.inr ⟨j, hlt, rfl, HX.out, HT.out⟩, hs.trans hs1⟩
    . have hd : decide (x = n) = false := by simp [hxn]
      go_wp2
      go_roundw
      case rel => exact ⟨j + 1, by omega, by go_num, by
       rw [HTK.out]
       intro y hy
       rcases List.mem_append.1 hy with hy | hy
       . exact HT.out y hy
       . simp at hy
         rw [hy]
         exact hxn, hs.trans hs1⟩
      case measure => simp [intOf]; omega
  . go_wp2
    go_ret
    have e : j = len := by omega
    subst e
    rw [List.take_of_length_le (by omega)] at ht
    exact ⟨.inl ⟨rfl, ht⟩, hs⟩

theorem deleteFunc_any (w : World) (lo hi : Nat) (a : Option Addr) (len cap : Nat) (zs : List Int) (n : Int) (B : Nat) (h : tIntS.Own w lo hi [.slice a len cap] zs) (hc : w.cell? ⟨B, 0, none⟩ = some (.int .i64 n)) (hB : B < lo ∨ hi <= B) (hlen : len <= 2097152) :
 Calls Tryz.prog 245 #[.slice a len cap, .func (Fn.func 246) #[] #[.pointer (some ⟨B, 0, none⟩)]] w fun e w' => ∃ a' c', e = .returned (.slice a' (filt zs n).length c') /\ tIntS.Own w' lo hi [.slice a' (filt zs n).length c'] (filt zs n) /\ But lo hi w w' := by
 obtain ⟨hr, hl, _, _⟩ := ints_rd h.rd
 go_enter Tryz.func245, Tryz.ntmps245
 go_wp2_with fail
 refine (indexFunc_any _ _ _ _ zs n B hc hl hr hlen).mono ?_
 rintro e w1 ⟨hcase, hs1⟩
 rcases hcase with ⟨rfl, hnone⟩ | ⟨i, hi1, rfl, hxi, hpre⟩
 . have HF := hidden (filt_none hnone)
   have H1 := hidden (h.same hs1)
   have HB := hidden (But.of_below (lo := lo) (hi := hi) (hs1.below _))
   clear hnone
   go_wp2
   go_ret
   exact ⟨a, cap, by rw [HF.out, hl]; rfl, by rw [HF.out, hl]; exact H1.out, HB.out⟩
 . obtain ⟨g, hgl, hgh, rfl, ho⟩ : ∃ g, lo <= g /\ g < hi /\ a = some ⟨g, 0, none⟩ /\ Own .i64 3 w g (g + 1) (.slice (some ⟨g, 0, none⟩) len cap) zs := by
    obtain ⟨fp, hm, hfr⟩ := h.mine
    rcases ints_row hm.1 with ⟨hv, _, _⟩ | ⟨g, cap', hv, hf, ho⟩
    . simp at hv
      omega
    . simp only [Value.slice.injEq] at hv
      obtain ⟨rfl, rfl, rfl⟩ := hv
      have := hfr g (by rw [hf]; simp)
      exact ⟨g, this.1, this.2, rfl, ho⟩
   have hcap : len <= cap := (row_length h.rd).2.1
   have hcm : cap <= 9223372036854775807 := (row_length h.rd).2.2
   have hBs : B < w.heap.size := by
    rcases Nat.lt_or_ge B w.heap.size with h' | h'
    . exact h'
    . simp [World.cell?, Array.getElem?_eq_none h'] at hc
   have hBg : B ≠ g := by omega
   have HST : Hid (zs.take i = filt (zs.take (i + 1)) n) := by
    unfold Hid
    rw [List.take_add_one, hxi]
    show _ = filt (zs.take i ++ [n]) n
    rw [filt_snoc, if_pos rfl, filt_none hpre]
   have O1 := hidden (ho.same hs1)
   have HB1 := hidden (But.of_below (lo := g) (hi := g + 1) (hs1.below _))
   clear hxi hpre ho hr
   have hne : ((i : Int) == -1) = false := by simp
   have zr : ∀ w, (zeroValue 3).run Tryz.prog w = .ok (.int .i64 0) w := fun w => by kernel_rfl
   go_wp2
   go_loopw [5, 6] (fun iv jv wr => ∃ (j i : Nat) (L : List Int), j <= len /\ jv = .int .i64 j /\ iv = .int .i64 i /\ i < j /\ Own .i64 3 wr g (g + 1) (.slice (some ⟨g, 0, none⟩) len cap) L /\ L.take i = filt (zs.take j) n /\ L.drop j = zs.drop j /\ But g (g + 1) w wr) (fun _ jv _ => len - (intOf jv).toNat)
   case atStart => exact ⟨i + 1, i, zs, by omega, by go_num, rfl, by omega, O1.out, HST.out, rfl, HB1.out⟩
   case round =>
    obtain ⟨j, i, L, hj, rfl, rfl, hij, ho, ht, hd, hb⟩ := hrel
    have hLl := ho.length
    by_cases hlt : j < len
    . have hx : zs[j]? = some (L.getD j 0) := by
       have h1 : (L.drop j)[0]? = (zs.drop j)[0]? := by rw [hd]
       rw [List.getElem?_drop, List.getElem?_drop, Nat.add_zero] at h1
       rw [← h1, List.getD_eq_getElem?_getD, List.getElem?_eq_getElem (by omega)]
       rfl
      have htk : zs.take (j + 1) = zs.take j ++ [L.getD j 0] := by rw [List.take_add_one, hx]; rfl
      have hcj := (ho.store j hlt 0).1
      have hdd : L.drop (j + 1) = zs.drop (j + 1) := by
       have := congrArg (List.drop 1) hd
       rw [List.drop_drop, List.drop_drop] at this
       exact this
      have hLj : L[j]? = some (L.getD j 0) := by rw [List.getD_eq_getElem?_getD, List.getElem?_eq_getElem (by omega)]; rfl
      generalize L.getD j 0 = x at hx htk hcj hLj
      have hcB := (cell_kept (hb.block B hBs (by omega)) 0).trans hc
      obtain ⟨hci, hfi, hst, hbt⟩ := ho.store i (by omega) x
      have hti : (L.set i x).take (i + 1) = L.take i ++ [x] := by
       rw [List.take_add_one, List.getElem?_set_self (by omega)]
       congr 1
       apply List.ext_getElem?
       intro m
       rw [List.getElem?_take, List.getElem?_take]
       by_cases hm : m < i
       . rw [if_pos hm, if_pos hm, List.getElem?_set_ne (by omega)]
       . rw [if_neg hm, if_neg hm]
      have hdi : (L.set i x).drop (j + 1) = L.drop (j + 1) := by
       apply List.ext_getElem?
       intro m
       rw [List.getElem?_drop, List.getElem?_drop, List.getElem?_set_ne (by omega)]
      generalize L.getD i 0 = y at hci
      have HO := hidden ho
      have HT := hidden ht
      have HD := hidden hdd
      have HTK := hidden htk
      have HST2 := hidden hst
      have HBT := hidden hbt
      have HTI := hidden hti
      have HDI := hidden hdi
      have HB := hidden hb
      clear ho ht hd hdd htk hst hbt hti hdi hb hx hLj
      go_wp2_with fail
      refine (del_any _ _ n B hcB).mono ?_
      rintro e w2 ⟨rfl, hs2⟩
      have hci2 := (hs2.cell _).trans hci
      have hfi2 : w2.frozen? ⟨g, i, none⟩ = false := by rw [← hfi]; exact World.frozen?_of_block (by rw [hs2.heap])
      by_cases hxn : x = n
      . subst hxn
        have hdc : decide (x = x) = true := by simp
        go_wp2
        go_roundw
        case rel => exact ⟨j + 1, i, L, by omega, by go_num, rfl, by omega, HO.out.same hs2, by rw [HTK.out, filt_snoc, if_pos rfl]; exact HT.out, HD.out, HB.out.trans (But.of_below (hs2.below _))⟩
        case measure => simp [intOf]; omega
      . have hdc : decide (x = n) = false := by simp [hxn]
        have OS := hidden ((HO.out.same hs2).store i (by omega) x)
        go_wp2
        go_roundw
        case rel => exact ⟨j + 1, i + 1, L.set i x, by omega, by go_num, by go_num, by omega, OS.out.2.2.1, by rw [HTI.out, HTK.out, filt_snoc, if_neg hxn, HT.out], by rw [HDI.out]; exact HD.out, (HB.out.trans (But.of_below (hs2.below _))).trans OS.out.2.2.2⟩
        case measure => simp [intOf]; omega
    . have e : len = j := by omega
      subst e
      rw [List.take_of_length_le (l := zs) (by omega)] at ht
      have hil : i = (filt zs n).length := by rw [← ht, List.length_take]; omega
      have hclr : ∀ ty, (Builtin.clear_ #[30] ty #[.slice (some ⟨g, i, none⟩) (len - i) (cap - i)]).run Tryz.prog wr = .ok (.tuple #[]) (wr.setCells g i (List.replicate (len - i) (.int .i64 0))) := fun ty =>
       Go.Lib.run_clear_slice wr 30 3 ty (.int .i64 0) Tryz.underlying30 zr rfl rfl g i (len - i) (cap - i) (by omega) (fun m hm => by rw [(ho.store (i + m) (by omega) 0).1]; rfl) (fun m hm => (ho.store (i + m) (by omega) 0).2.1)
      obtain ⟨L', o1, t1, b1⟩ := Own.zeros (len - i) i wr L ho (by omega)
      have o2 := o1.cut (i := i) (by omega)
      rw [t1, ht] at o2
      have HF := hidden ((mine_of_own o2).widen (lo' := lo) (hi' := hi) (by omega) (by omega))
      have HBF := hidden (hb.trans b1)
      have HIL := hidden hil
      have k1 : (0 : Int) <= (i : Int) := by omega
      have k2 : (i : Int) <= (len : Int) := by omega
      have k3 : (len : Int) <= (cap : Int) := by omega
      clear o1 o2 t1 b1 ho ht hd hb hil
      go_wp2
      go_ret
      exact ⟨some ⟨g, 0, none⟩, cap, by rw [← HIL.out]; rfl, by rw [← HIL.out]; exact HF.out, ⟨HBF.out.os, HBF.out.tape, HBF.out.output, HBF.out.size, fun k hk ho => HBF.out.block k hk (by omega)⟩⟩

def wrOk (ss : List (List Int)) (cs : List (Int × List Int)) (f : Bool) (bs : List Int) (n : Int) (sw : List Int) : Bool := memB ss cs bs && (!f && (inB n 0 ((ss.length : Int) - 1) && (secB sw && decide (cs.length < 60))))
def wrCS (ss : List (List Int)) (cs : List (Int × List Int)) (f : Bool) (bs : List Int) (n : Int) (sw : List Int) : List (Int × List Int) := if wrOk ss cs f bs n sw = true then cs ++ [(n, sw)] else cs
def wrBS (ss : List (List Int)) (cs : List (Int × List Int)) (f : Bool) (bs : List Int) (n : Int) (sw : List Int) : List Int := if wrOk ss cs f bs n sw = true then filt bs n else bs

theorem implWriteSec_any (w : World) (E : TypeId) (a0 a1 a3 a5 : Option Addr) (n0 c0 n1 c1 n3 c3 n5 c5 : Nat) (ss : List (List Int)) (cs : List (Int × List Int)) (f : Bool) (bs : List Int) (n : Int) (sw : List Int) (h0 : tIntSS.Rd w [.slice a0 n0 c0] ss) (h1 : (tWrS E).Rd w [.slice a1 n1 c1] cs) (h3 : tIntS.Rd w [.slice a3 n3 c3] bs) (h5 : tIntS.Rd w [.slice a5 n5 c5] sw) (hw : wtMem (ss, cs, f, bs) <= 2097152) (hw5 : n5 <= 2097152) :
 Calls Tryz.prog 220 #[.agg #[.slice a0 n0 c0, .slice a1 n1 c1, .bool f, .slice a3 n3 c3], .int .i64 n, .slice a5 n5 c5] w fun e w' => ∃ v0 v1 v3, e = .returned (.tuple #[.agg #[v0, v1, .bool f, v3], .bool (wrOk ss cs f bs n sw)]) /\ (tMem 159).Own w' w.heap.size w'.heap.size [v0, v1, .bool f, v3] (ss, wrCS ss cs f bs n sw, f, wrBS ss cs f bs n sw) /\ Below w.heap.size w w' := by
 obtain ⟨hl0, _, hm0⟩ := row_length h0
 obtain ⟨hl1, _, hm1⟩ := row_length h1
 obtain ⟨hl3, _, hm3⟩ := row_length h3
 obtain ⟨hl5, _, hm5⟩ := row_length h5
 by_cases hM : memB ss cs bs = true
 . by_cases hf : f = true
   . subst hf
     have hok : wrOk ss cs true bs n sw = false := by unfold wrOk; simp [hM]
     have e1 : wrCS ss cs true bs n sw = cs := by unfold wrCS; rw [hok]; rfl
     have e2 : wrBS ss cs true bs n sw = bs := by unfold wrBS; rw [hok]; rfl
     rw [hok, e1, e2]
     clear hok e1 e2
     have hA : Below w.heap.size w (((w.alloc (.cells #[.slice a0 n0 c0, .slice a1 n1 c1, .bool true, .slice a3 n3 c3] 109)).alloc (.cells #[.int .i64 n] 3)).alloc (.cells #[.slice none 0 0, .slice none 0 0, .bool false, .slice none 0 0] 109)) := (((Below.refl _ _).alloc (Nat.le_refl _) _).alloc (by simp) _).alloc (by simp; omega) _
     have xm : Box (((w.alloc (.cells #[.slice a0 n0 c0, .slice a1 n1 c1, .bool true, .slice a3 n3 c3] 109)).alloc (.cells #[.int .i64 n] 3)).alloc (.cells #[.slice none 0 0, .slice none 0 0, .bool false, .slice none 0 0] 109)) w.heap.size 109 #[.slice a0 n0 c0, .slice a1 n1 c1, .bool true, .slice a3 n3 c3] := ((Box.new w _ _).alloc _).alloc _
     have xn : Box (((w.alloc (.cells #[.slice a0 n0 c0, .slice a1 n1 c1, .bool true, .slice a3 n3 c3] 109)).alloc (.cells #[.int .i64 n] 3)).alloc (.cells #[.slice none 0 0, .slice none 0 0, .bool false, .slice none 0 0] 109)) (w.heap.size + 1) 3 #[.int .i64 n] := by
      have := Box.new (w.alloc (.cells #[.slice a0 n0 c0, .slice a1 n1 c1, .bool true, .slice a3 n3 c3] 109)) 3 #[.int .i64 n]
      rw [show (w.alloc (.cells #[.slice a0 n0 c0, .slice a1 n1 c1, .bool true, .slice a3 n3 c3] 109)).heap.size = w.heap.size + 1 by simp] at this
      exact this.alloc _
     have xr : Box (((w.alloc (.cells #[.slice a0 n0 c0, .slice a1 n1 c1, .bool true, .slice a3 n3 c3] 109)).alloc (.cells #[.int .i64 n] 3)).alloc (.cells #[.slice none 0 0, .slice none 0 0, .bool false, .slice none 0 0] 109)) (w.heap.size + 2) 109 #[.slice none 0 0, .slice none 0 0, .bool false, .slice none 0 0] := by
      have := Box.new ((w.alloc (.cells #[.slice a0 n0 c0, .slice a1 n1 c1, .bool true, .slice a3 n3 c3] 109)).alloc (.cells #[.int .i64 n] 3)) 109 #[.slice none 0 0, .slice none 0 0, .bool false, .slice none 0 0]
      rw [show ((w.alloc (.cells #[.slice a0 n0 c0, .slice a1 n1 c1, .bool true, .slice a3 n3 c3] 109)).alloc (.cells #[.int .i64 n] 3)).heap.size = w.heap.size + 2 by simp] at this
      exact this
     go_enter Tryz.func220, Tryz.ntmps220
     go_wp2_with fail
     generalize hW : ((w.alloc (.cells #[.slice a0 n0 c0, .slice a1 n1 c1, .bool true, .slice a3 n3 c3] 109)).alloc (.cells #[.int .i64 n] 3)).alloc (.cells #[.slice none 0 0, .slice none 0 0, .bool false, .slice none 0 0] 109) = W at hA xm xn xr ⊢
     clear hW
     have zr := xr.lt
     have B0 := hidden hA
     clear hA
     have XM0 := hidden xm
     clear xm
     have XN0 := hidden xn
     clear xn
     have XR0 := hidden xr
     clear xr
     obtain ⟨q0, q1, q2, q3⟩ := XM0.out.cells4
     clear q0 q1 q2 q3
     refine (copyMem_any _ E _ _ _ _ _ _ _ _ _ ss cs true bs (h0.below B0.out) (h1.below B0.out) (h3.below B0.out) hw).mono ?_
     intro e w1 hc
     obtain ⟨b0, b1, b3, e0, e1, e3, m1, m2, rfl, o3, o0, o1, r1, r2, r3, hb1⟩ := copy_shapes hl0 hl1 hl3 hc
     clear hc
     have B1 := hidden (Below.andThen B0.out hb1)
     have XM1 := hidden (XM0.out.below hb1 (by omega))
     have XN1 := hidden (XN0.out.below hb1 (by omega))
     have XR1 := hidden (XR0.out.below hb1 (by omega))
     have z1 := hb1.size
     clear B0 XM0 XN0 XR0 hb1
     have S1 := hidden o0
     clear o0
     have C1 := hidden o1
     clear o1
     have D1 := hidden o3
     clear o3
     have ba : Below w1.heap.size w1 (w1.alloc (.cells #[.slice b0 n0 e0, .slice b1 n1 e1, .bool true, .slice b3 n3 e3] 109)) := (Below.refl _ _).alloc (Nat.le_refl _) _
     have yo := Box.new w1 109 #[.slice b0 n0 e0, .slice b1 n1 e1, .bool true, .slice b3 n3 e3]
     have zo := yo.lt
     have B2 := hidden (Below.andThen B1.out ba)
     have XM2 := hidden (XM1.out.below ba (by omega))
     have XN2 := hidden (XN1.out.below ba (by omega))
     have XR2 := hidden (XR1.out.below ba (by omega))
     have S2 := hidden (S1.out.below ba)
     have C2 := hidden (C1.out.below ba)
     have D2 := hidden (D1.out.below ba)
     have z2 := ba.size
     clear B1 XM1 XN1 XR1 S1 C1 D1 ba
     have XO2 := hidden yo
     clear yo
     have sW : w.heap.size + 2 < W.heap.size := zr
     obtain ⟨q0, q1, q2, q3⟩ := XM2.out.cells4
     go_wp2_with fail
     generalize w1.alloc (.cells #[.slice b0 n0 e0, .slice b1 n1 e1, .bool true, .slice b3 n3 e3] 109) = w2 at B2 XM2 XN2 XR2 S2 C2 D2 XO2 z2 zo q0 q1 q2 q3 ⊢
     refine (implMemOk_any _ E _ _ _ _ _ _ _ _ _ ss cs true bs (h0.below B2.out) (h1.below B2.out) (h3.below B2.out) hw).mono ?_
     rintro e w3 ⟨rfl, hb3⟩
     clear q0 q1 q2 q3
     have B3 := hidden (Below.andThen B2.out hb3)
     have XM3 := hidden (XM2.out.below hb3 (by omega))
     have XN3 := hidden (XN2.out.below hb3 (by omega))
     have XR3 := hidden (XR2.out.below hb3 (by omega))
     have S3 := hidden (S2.out.below hb3)
     have C3 := hidden (C2.out.below hb3)
     have D3 := hidden (D2.out.below hb3)
     have XO3 := hidden (XO2.out.below hb3 (by omega))
     have z3 := hb3.size
     clear B2 XM2 XN2 XR2 S2 C2 D2 XO2 hb3
     obtain ⟨q0, q1, q2, q3⟩ := XM3.out.cells4
     obtain ⟨x0, x1, x2, x3⟩ := XO3.out.cells4
     obtain ⟨p0, p1, p2, p3⟩ := XR3.out.cells4
     have fz := XR3.out.frozen
     have hbt : But (w.heap.size + 2) (w.heap.size + 2 + 1) w3 ((((w3.setCell ⟨w.heap.size + 2, 0, none⟩ (.slice b0 n0 e0)).setCell ⟨w.heap.size + 2, 1, none⟩ (.slice b1 n1 e1)).setCell ⟨w.heap.size + 2, 2, none⟩ (.bool true)).setCell ⟨w.heap.size + 2, 3, none⟩ (.slice b3 n3 e3)) :=
      (((But.setCell (by omega) (by omega) _).trans (But.setCell (by omega) (by omega) _)).trans (But.setCell (by omega) (by omega) _)).trans (But.setCell (by omega) (by omega) _)
     have z99 := hbt.size
     have FIN : Hid ((tMem 159).Own ((((w3.setCell ⟨w.heap.size + 2, 0, none⟩ (.slice b0 n0 e0)).setCell ⟨w.heap.size + 2, 1, none⟩ (.slice b1 n1 e1)).setCell ⟨w.heap.size + 2, 2, none⟩ (.bool true)).setCell ⟨w.heap.size + 2, 3, none⟩ (.slice b3 n3 e3)) w.heap.size ((((w3.setCell ⟨w.heap.size + 2, 0, none⟩ (.slice b0 n0 e0)).setCell ⟨w.heap.size + 2, 1, none⟩ (.slice b1 n1 e1)).setCell ⟨w.heap.size + 2, 2, none⟩ (.bool true)).setCell ⟨w.heap.size + 2, 3, none⟩ (.slice b3 n3 e3)).heap.size [.slice b0 n0 e0, .slice b1 n1 e1, .bool true, .slice b3 n3 e3] (ss, cs, true, bs)) := mem_own3 (S3.out.but hbt (by omega)) (C3.out.but hbt (by omega)) (D3.out.but hbt (by omega)) (by omega) (by omega) (by omega) (by omega) (by omega) (by omega)
     have FB := hidden (Below.andBut B3.out hbt (by omega))
     clear hbt
     go_wp2
     refine bodyPost_ret (v := .tuple #[.agg #[.slice b0 n0 e0, .slice b1 n1 e1, .bool true, .slice b3 n3 e3], .bool false]) (by simp [results, Tryz.results220, go_sem, p0, p1, p2, p3]) rfl ?_
     exact ⟨_, _, _, rfl, FIN.out, FB.out⟩
   . have hf : f = false := by simpa using hf
     subst hf
     by_cases hI : inB n 0 ((n0 : Int) - 1) = true
     . by_cases hS : secB sw = true
       . by_cases hL : n1 < 60
         . have hL' : ¬ (60 : Int) <= (n1 : Int) := by omega
           have hok : wrOk ss cs false bs n sw = true := by unfold wrOk; rw [hM, hl0, hI, hS, decide_eq_true (by omega)]; rfl
           have e1 : wrCS ss cs false bs n sw = cs ++ [(n, sw)] := by unfold wrCS; rw [hok]; rfl
           have e2 : wrBS ss cs false bs n sw = filt bs n := by unfold wrBS; rw [hok]; rfl
           rw [hok, e1, e2]
           clear hok e1 e2
           have hA : Below w.heap.size w (((w.alloc (.cells #[.slice a0 n0 c0, .slice a1 n1 c1, .bool false, .slice a3 n3 c3] 109)).alloc (.cells #[.int .i64 n] 3)).alloc (.cells #[.slice none 0 0, .slice none 0 0, .bool false, .slice none 0 0] 109)) := (((Below.refl _ _).alloc (Nat.le_refl _) _).alloc (by simp) _).alloc (by simp; omega) _
           have xm : Box (((w.alloc (.cells #[.slice a0 n0 c0, .slice a1 n1 c1, .bool false, .slice a3 n3 c3] 109)).alloc (.cells #[.int .i64 n] 3)).alloc (.cells #[.slice none 0 0, .slice none 0 0, .bool false, .slice none 0 0] 109)) w.heap.size 109 #[.slice a0 n0 c0, .slice a1 n1 c1, .bool false, .slice a3 n3 c3] := ((Box.new w _ _).alloc _).alloc _
           have xn : Box (((w.alloc (.cells #[.slice a0 n0 c0, .slice a1 n1 c1, .bool false, .slice a3 n3 c3] 109)).alloc (.cells #[.int .i64 n] 3)).alloc (.cells #[.slice none 0 0, .slice none 0 0, .bool false, .slice none 0 0] 109)) (w.heap.size + 1) 3 #[.int .i64 n] := by
            have := Box.new (w.alloc (.cells #[.slice a0 n0 c0, .slice a1 n1 c1, .bool false, .slice a3 n3 c3] 109)) 3 #[.int .i64 n]
            rw [show (w.alloc (.cells #[.slice a0 n0 c0, .slice a1 n1 c1, .bool false, .slice a3 n3 c3] 109)).heap.size = w.heap.size + 1 by simp] at this
            exact this.alloc _
           have xr : Box (((w.alloc (.cells #[.slice a0 n0 c0, .slice a1 n1 c1, .bool false, .slice a3 n3 c3] 109)).alloc (.cells #[.int .i64 n] 3)).alloc (.cells #[.slice none 0 0, .slice none 0 0, .bool false, .slice none 0 0] 109)) (w.heap.size + 2) 109 #[.slice none 0 0, .slice none 0 0, .bool false, .slice none 0 0] := by
            have := Box.new ((w.alloc (.cells #[.slice a0 n0 c0, .slice a1 n1 c1, .bool false, .slice a3 n3 c3] 109)).alloc (.cells #[.int .i64 n] 3)) 109 #[.slice none 0 0, .slice none 0 0, .bool false, .slice none 0 0]
            rw [show ((w.alloc (.cells #[.slice a0 n0 c0, .slice a1 n1 c1, .bool false, .slice a3 n3 c3] 109)).alloc (.cells #[.int .i64 n] 3)).heap.size = w.heap.size + 2 by simp] at this
            exact this
           go_enter Tryz.func220, Tryz.ntmps220
           go_wp2_with fail
           generalize hW : ((w.alloc (.cells #[.slice a0 n0 c0, .slice a1 n1 c1, .bool false, .slice a3 n3 c3] 109)).alloc (.cells #[.int .i64 n] 3)).alloc (.cells #[.slice none 0 0, .slice none 0 0, .bool false, .slice none 0 0] 109) = W at hA xm xn xr ⊢
           clear hW
           have zr := xr.lt
           have B0 := hidden hA
           clear hA
           have XM0 := hidden xm
           clear xm
           have XN0 := hidden xn
           clear xn
           have XR0 := hidden xr
           clear xr
           obtain ⟨q0, q1, q2, q3⟩ := XM0.out.cells4
           clear q0 q1 q2 q3
           refine (copyMem_any _ E _ _ _ _ _ _ _ _ _ ss cs false bs (h0.below B0.out) (h1.below B0.out) (h3.below B0.out) hw).mono ?_
           intro e w1 hc
           obtain ⟨b0, b1, b3, e0, e1, e3, m1, m2, rfl, o3, o0, o1, r1, r2, r3, hb1⟩ := copy_shapes hl0 hl1 hl3 hc
           clear hc
           have B1 := hidden (Below.andThen B0.out hb1)
           have XM1 := hidden (XM0.out.below hb1 (by omega))
           have XN1 := hidden (XN0.out.below hb1 (by omega))
           have XR1 := hidden (XR0.out.below hb1 (by omega))
           have z1 := hb1.size
           clear B0 XM0 XN0 XR0 hb1
           have S1 := hidden o0
           clear o0
           have C1 := hidden o1
           clear o1
           have D1 := hidden o3
           clear o3
           have ba : Below w1.heap.size w1 (w1.alloc (.cells #[.slice b0 n0 e0, .slice b1 n1 e1, .bool false, .slice b3 n3 e3] 109)) := (Below.refl _ _).alloc (Nat.le_refl _) _
           have yo := Box.new w1 109 #[.slice b0 n0 e0, .slice b1 n1 e1, .bool false, .slice b3 n3 e3]
           have zo := yo.lt
           have B2 := hidden (Below.andThen B1.out ba)
           have XM2 := hidden (XM1.out.below ba (by omega))
           have XN2 := hidden (XN1.out.below ba (by omega))
           have XR2 := hidden (XR1.out.below ba (by omega))
           have S2 := hidden (S1.out.below ba)
           have C2 := hidden (C1.out.below ba)
           have D2 := hidden (D1.out.below ba)
           have z2 := ba.size
           clear B1 XM1 XN1 XR1 S1 C1 D1 ba
           have XO2 := hidden yo
           clear yo
           have sW : w.heap.size + 2 < W.heap.size := zr
           obtain ⟨q0, q1, q2, q3⟩ := XM2.out.cells4
           go_wp2_with fail
           generalize w1.alloc (.cells #[.slice b0 n0 e0, .slice b1 n1 e1, .bool false, .slice b3 n3 e3] 109) = w2 at B2 XM2 XN2 XR2 S2 C2 D2 XO2 z2 zo q0 q1 q2 q3 ⊢
           refine (implMemOk_any _ E _ _ _ _ _ _ _ _ _ ss cs false bs (h0.below B2.out) (h1.below B2.out) (h3.below B2.out) hw).mono ?_
           rintro e w3 ⟨rfl, hb3⟩
           clear q0 q1 q2 q3
           have B3 := hidden (Below.andThen B2.out hb3)
           have XM3 := hidden (XM2.out.below hb3 (by omega))
           have XN3 := hidden (XN2.out.below hb3 (by omega))
           have XR3 := hidden (XR2.out.below hb3 (by omega))
           have S3 := hidden (S2.out.below hb3)
           have C3 := hidden (C2.out.below hb3)
           have D3 := hidden (D2.out.below hb3)
           have XO3 := hidden (XO2.out.below hb3 (by omega))
           have z3 := hb3.size
           clear B2 XM2 XN2 XR2 S2 C2 D2 XO2 hb3
           obtain ⟨q0, q1, q2, q3⟩ := XM3.out.cells4
           have qn : w3.cell? ⟨w.heap.size + 1, 0, none⟩ = some (.int .i64 n) := XN3.out.cell 0
           go_wp2_with fail
           refine (hasSec_any _ _ _ _ _ _ _ _).mono ?_
           rintro e w4 ⟨rfl, hb4⟩
           clear q0 q1 q2 q3
           clear qn
           have B4 := hidden (Below.andThen B3.out hb4)
           have XM4 := hidden (XM3.out.below hb4 (by omega))
           have XN4 := hidden (XN3.out.below hb4 (by omega))
           have XR4 := hidden (XR3.out.below hb4 (by omega))
           have S4 := hidden (S3.out.below hb4)
           have C4 := hidden (C3.out.below hb4)
           have D4 := hidden (D3.out.below hb4)
           have XO4 := hidden (XO3.out.below hb4 (by omega))
           have z4 := hb4.size
           clear B3 XM3 XN3 XR3 S3 C3 D3 XO3 hb4
           obtain ⟨q0, q1, q2, q3⟩ := XM4.out.cells4
           go_wp2_with fail
           refine (implSecOk_any _ _ _ _ sw hl5 (ints_rd (h5.below B4.out)).1 hw5).mono ?_
           rintro e w5 ⟨rfl, hs5⟩
           clear q0 q1 q2 q3
           have B5 := hidden (Below.andSame B4.out hs5)
           have XM5 := hidden (XM4.out.same hs5)
           have XN5 := hidden (XN4.out.same hs5)
           have XR5 := hidden (XR4.out.same hs5)
           have S5 := hidden (S4.out.same hs5)
           have C5 := hidden (C4.out.same hs5)
           have D5 := hidden (D4.out.same hs5)
           have XO5 := hidden (XO4.out.same hs5)
           have z5 := Nat.le_of_eq hs5.size.symm
           clear B4 XM4 XN4 XR4 S4 C4 D4 XO4 hs5
           obtain ⟨q0, q1, q2, q3⟩ := XM5.out.cells4
           obtain ⟨x0, x1, x2, x3⟩ := XO5.out.cells4
           have qn : w5.cell? ⟨w.heap.size + 1, 0, none⟩ = some (.int .i64 n) := XN5.out.cell 0
           have hle : ¬ (60 : Int) <= (n1 : Int) := by omega
           have hlw3 : n3 <= 2097152 := by unfold wtMem at hw; simp only at hw; omega
           go_wp2_with fail
           clear q0 q1 q2 q3
           obtain ⟨i1, hi1, hy0, hy1, hy2⟩ := info_parts Tryz.infoWr
           obtain ⟨fpC, mC, rC⟩ := C5.out.mine
           have MC := hidden mC
           have RC := hidden rC
           clear mC rC
           have HX5 := hidden (h5.below B5.out)
           have L1 : Hid (cs.length + 1 <= maxLen) := by unfold Hid maxLen; omega
           have L2 : Hid ((cs.length + 1) * 32 <= 140737488355328) := by unfold Hid; omega
           have hS : w5.drew.cell? ⟨w1.heap.size, 1, none⟩ = some (.slice b1 n1 e1) /\ w5.drew.cell? ⟨w.heap.size + 1, 0, none⟩ = some (.int .i64 n) := ⟨XO5.out.cell 1, XN5.out.cell 0⟩
           clear x0 x1 x2 x3 qn hle
           refine Upto.start (S := fun w' => w'.cell? ⟨w1.heap.size, 1, none⟩ = some (.slice b1 n1 e1) /\ w'.cell? ⟨w.heap.size + 1, 0, none⟩ = some (.int .i64 n)) (k := 9) (by kernel_rfl) ?_
           refine Upto.t 0 hS ?_
           refine Upto.t 1 hS ?_
           refine Upto.t 2 hS ?_
           refine Upto.t 3 hS ?_
           refine Upto.one (i := 4) (by kernel_rfl) rfl (fun K hK => ?_)
           go_simp
           refine (copyWords_any _ _ _ _ sw (by exact HX5.out.drew) (by omega)).mono ?_
           rintro e wc ⟨ac, cc, rfl, oc, hbd⟩
           have hbc : Below w5.heap.size w5 wc := (by exact (Below.refl w5.heap.size w5).drew.trans hbd)
           obtain ⟨fpx, mx, rx⟩ := Ty.Own.mine (lo := w5.heap.size) oc
           have MX := hidden mx
           have RX := hidden rx
           clear mx rx oc hbd
           have xoc : Box wc w1.heap.size 109 _ := XO5.out.below hbc (by omega)
           have xnc : Box wc (w.heap.size + 1) 3 _ := XN5.out.below hbc (by omega)
           have hS3 : wc.cell? ⟨w1.heap.size, 1, none⟩ = some (.slice b1 n1 e1) /\ wc.cell? ⟨w.heap.size + 1, 0, none⟩ = some (.int .i64 n) := ⟨xoc.cell 1, xnc.cell 0⟩
           have hS4 : (wc.alloc (.cells #[.int .i64 n, .slice ac n5 cc] 159)).cell? ⟨w1.heap.size, 1, none⟩ = some (.slice b1 n1 e1) /\ (wc.alloc (.cells #[.int .i64 n, .slice ac n5 cc] 159)).cell? ⟨w.heap.size + 1, 0, none⟩ = some (.int .i64 n) := ⟨(xoc.alloc (.cells #[.int .i64 n, .slice ac n5 cc] 159)).cell 1, (xnc.alloc (.cells #[.int .i64 n, .slice ac n5 cc] 159)).cell 0⟩
           have XOC := hidden xoc
           have XNC := hidden xnc
           have HBC := hidden hbc
           clear xoc hbc xnc
           go_wp2_with fail
           refine hK.out _ _ (fun _ => hS3) ?_
           clear hK K
           refine Upto.t 5 hS3 ?_
           refine Upto.one (i := 6) (by kernel_rfl) rfl (fun K hK => ?_)
           go_simp
           refine hK.out _ _ (fun _ => hS4) ?_
           clear hK K
           refine Upto.one (i := 7) (by kernel_rfl) rfl (fun K hK => ?_)
           refine step_appT tWr (by rfl) _ _ 107 (by rfl) 159 i1 (.agg #[.int .i64 0, .slice none 0 0]) 32 Tryz.underlying107 hi1 hy0 hy1 hy2 rfl Nat.zero_lt_two (.slice b1 n1 e1) cs fpC (by rfl) ?_ ⟨wc.heap.size, 0, none⟩ 1 [.int .i64 n, .slice ac n5 cc] (n, sw) fpx (by rfl) ?_ ?_ ?_ ?_ L1.out L2.out ?_
           . exact (MC.out.below HBC.out).alloc _
           . exact (wr_mine n MX.out).alloc _
           . intro b hb hb'
             have h1 := RC.out b hb
             have h2 := RX.out b hb'
             omega
           . exact news_new _ _ _
           . intro u hu
             simp at hu
             rcases hu with hu | hu <;> (rw [hu]; rfl)
           intro g cap wA fpA m1' m2' m3'
           rw [hl1] at m1' ⊢
           have zB : (wc.alloc (.cells #[.int .i64 n, .slice ac n5 cc] 159)).heap.size = wc.heap.size + 1 := by simp
           have ya : Box wA w1.heap.size 109 _ := (XOC.out.alloc _).turned m3' (fun hm => by have := RC.out _ hm; omega)
           have yn : Box wA (w.heap.size + 1) 3 _ := (XNC.out.alloc _).turned m3' (fun hm => by have := RC.out _ hm; omega)
           have hS5 : wA.cell? ⟨w1.heap.size, 1, none⟩ = some (.slice b1 n1 e1) /\ wA.cell? ⟨w.heap.size + 1, 0, none⟩ = some (.int .i64 n) := ⟨ya.cell 1, yn.cell 0⟩
           have c9 := hS5.1
           have fz := ya.frozen 1
           have YA := hidden ya
           have M1 := hidden m1'
           have M2 := hidden m2'
           have M3 := hidden m3'
           have ZB := hidden zB
           clear ya m1' m2' m3' zB yn
           refine hK.out _ _ (fun _ => hS5) ?_
           clear hK K
           simp only [Act.put, List.setIfInBounds_toArray, List.set_cons_zero, List.set_cons_succ]
           refine Upto.t 8 hS5 ?_
           refine Upto.one (i := 9) (by kernel_rfl) rfl (fun K hK => ?_)
           go_simp
           refine hK.out _ _ (fun h => absurd rfl h) ?_
           clear hK K
           refine Upto.done (by kernel_rfl) ?_ _
           have zc := HBC.out.size
           have zA := M3.out.size
           have zB := ZB.out
           have hb6 : But m2 (w1.heap.size + 1) w5 (wA.setCell ⟨w1.heap.size, 1, none⟩ (.slice (some ⟨g, 0, none⟩) (n1 + 1) cap)) := ((But.of_below (Below.andThen HBC.out ((Below.refl _ _).alloc (Nat.le_refl _) _))).trans (M3.out.but (fun b hb => by have := RC.out b hb; omega))).trans (But.setCell (by omega) (by omega) _)
           have rA : ∀ b ∈ fpA, m2 <= b /\ b ≠ w1.heap.size /\ b < wA.heap.size := fun b hb => by
            have hlt := M1.out.lt b hb
            rcases M2.out b hb with h | h | h
            . have := RC.out b h
              omega
            . have := RX.out b h
              omega
            . have := h.1
              omega
           have mZ := M1.out.setCell (g := w1.heap.size) (j := 1) (fun hm => by have := rA _ hm; omega) (.slice (some ⟨g, 0, none⟩) (n1 + 1) cap)
           have yZ := YA.out.set 1 (.slice (some ⟨g, 0, none⟩) (n1 + 1) cap)
           have zs : wA.heap.size <= (wA.setCell ⟨w1.heap.size, 1, none⟩ (.slice (some ⟨g, 0, none⟩) (n1 + 1) cap)).heap.size := by simp
           have MZ := hidden mZ
           have RZ : Hid (∀ b ∈ fpA, m2 <= b /\ b ≠ w1.heap.size /\ b < (wA.setCell ⟨w1.heap.size, 1, none⟩ (.slice (some ⟨g, 0, none⟩) (n1 + 1) cap)).heap.size) := fun b hb => by have := rA b hb; omega
           have YZ := hidden yZ
           clear mZ rA yZ zs zA zB zc hS hS3 hS4 hS5 c9 fz YA M1 M2 M3 ZB XOC MX RX HBC MC RC HX5 L1 L2 XNC
           clear XO5
           clear C5
           have B6 := hidden (Below.andBut B5.out hb6 (by omega))
           have XM6 := hidden (XM5.out.kept (hb6.block _ (by omega) (by omega)))
           have XN6 := hidden (XN5.out.kept (hb6.block _ (by omega) (by omega)))
           have XR6 := hidden (XR5.out.kept (hb6.block _ (by omega) (by omega)))
           have S6 := hidden (S5.out.but hb6 (by omega))
           have D6 := hidden (D5.out.but hb6 (by omega))
           have z6 := hb6.size
           clear B5 XM5 XN5 XR5 S5 D5 hb6
           generalize (wA.setCell ⟨w1.heap.size, 1, none⟩ (.slice (some ⟨g, 0, none⟩) (n1 + 1) cap)) = w6 at B6 XM6 XN6 XR6 S6 D6 z6 MZ RZ YZ ⊢
           have XO6 : Hid (Box w6 w1.heap.size 109 #[.slice b0 n0 e0, .slice (some ⟨g, 0, none⟩) (n1 + 1) cap, .bool false, .slice b3 n3 e3]) := YZ.out
           clear YZ
           have hmf : ∀ (fn : Fn) (first cap : Array Value) (w : World), (Instr.makeFunc fn first cap).run Tryz.prog w = .ok (.func fn first cap) w := fun _ _ _ _ => rfl
           obtain ⟨x0, x1, x2, x3⟩ := XO6.out.cells4
           have HCN : Hid (w6.cell? ⟨w.heap.size + 1, 0, none⟩ = some (.int .i64 n)) := XN6.out.cell 0
           go_wp2_with fail
           refine (deleteFunc_any _ W.heap.size m1 _ _ _ bs n (w.heap.size + 1) D6.out HCN.out (by omega) (by omega)).mono ?_
           rintro e wb ⟨d3, f3, rfl, od, hbB⟩
           have zb := hbB.size
           have xob : Box wb w1.heap.size 109 _ := XO6.out.kept (hbB.block _ (by omega) (by omega))
           clear x0 x1 x2 x3
           obtain ⟨x0, x1, x2, x3⟩ := xob.cells4
           have fz := xob.frozen 3
           have XOB := hidden xob
           have OD := hidden od
           have HBB := hidden hbB
           clear xob od hbB
           have bs9 := But.setCell (lo := w1.heap.size) (hi := w1.heap.size + 1) (g := w1.heap.size) (j := 3) (w := wb) (Nat.le_refl _) (Nat.lt_succ_self _) (.slice d3 (filt bs n).length f3)
           have zt := bs9.size
           have MY := hidden ((MZ.out.but HBB.out (fun b hb => by have := RZ.out b hb; omega)).but bs9 (fun b hb => by have := RZ.out b hb; omega))
           have YZ := hidden (XOB.out.set 3 (.slice d3 (filt bs n).length f3))
           have D7 := hidden (OD.out.but bs9 (.inl (by omega)))
           have S7 := hidden ((S6.out.but HBB.out (.inr (Nat.le_refl _))).but bs9 (.inl (by omega)))
           have XR7 := hidden ((XR6.out.kept (HBB.out.block _ (by omega) (by omega))).kept (bs9.block _ (by omega) (by omega)))
           have B7 := hidden (Below.andBut (Below.andBut B6.out HBB.out (by omega)) bs9 (by omega))
           have RY : Hid (∀ b ∈ fpA, m2 <= b /\ b < (wb.setCell ⟨w1.heap.size, 3, none⟩ (.slice d3 (filt bs n).length f3)).heap.size) := fun b hb => by have := RZ.out b hb; omega
           have z7 : w6.heap.size <= (wb.setCell ⟨w1.heap.size, 3, none⟩ (.slice d3 (filt bs n).length f3)).heap.size := by omega
           clear bs9 zt zb XOB OD HBB MZ RZ HCN hmf B6 XM6 XN6 XR6 S6 D6 XO6
           obtain ⟨t0, t1, t2, t3⟩ := Box.cells4 (v0 := .slice b0 n0 e0) (v1 := .slice (some ⟨g, 0, none⟩) (n1 + 1) cap) (v2 := .bool false) (v3 := .slice d3 (filt bs n).length f3) YZ.out
           obtain ⟨p0, p1, p2, p3⟩ := XR7.out.cells4
           have fr := XR7.out.frozen
           go_wp2
           generalize (wb.setCell ⟨w1.heap.size, 3, none⟩ (.slice d3 (filt bs n).length f3)) = w7 at B7 S7 D7 XR7 MY RY YZ z7 p0 p1 p2 p3 fr t0 t1 t2 t3 ⊢
           have hbt : But (w.heap.size + 2) (w.heap.size + 2 + 1) w7 ((((w7.setCell ⟨w.heap.size + 2, 0, none⟩ (.slice b0 n0 e0)).setCell ⟨w.heap.size + 2, 1, none⟩ (.slice (some ⟨g, 0, none⟩) (n1 + 1) cap)).setCell ⟨w.heap.size + 2, 2, none⟩ (.bool false)).setCell ⟨w.heap.size + 2, 3, none⟩ (.slice d3 (filt bs n).length f3)) :=
            (((But.setCell (by omega) (by omega) _).trans (But.setCell (by omega) (by omega) _)).trans (But.setCell (by omega) (by omega) _)).trans (But.setCell (by omega) (by omega) _)
           have z99 := hbt.size
           refine bodyPost_ret (v := .tuple #[.agg #[.slice b0 n0 e0, .slice (some ⟨g, 0, none⟩) (n1 + 1) cap, .bool false, .slice d3 (filt bs n).length f3], .bool true]) (by simp [results, Tryz.results220, go_sem, p0, p1, p2, p3]) rfl ?_
           have FIN : Hid ((tMem 159).Own ((((w7.setCell ⟨w.heap.size + 2, 0, none⟩ (.slice b0 n0 e0)).setCell ⟨w.heap.size + 2, 1, none⟩ (.slice (some ⟨g, 0, none⟩) (n1 + 1) cap)).setCell ⟨w.heap.size + 2, 2, none⟩ (.bool false)).setCell ⟨w.heap.size + 2, 3, none⟩ (.slice d3 (filt bs n).length f3)) w.heap.size ((((w7.setCell ⟨w.heap.size + 2, 0, none⟩ (.slice b0 n0 e0)).setCell ⟨w.heap.size + 2, 1, none⟩ (.slice (some ⟨g, 0, none⟩) (n1 + 1) cap)).setCell ⟨w.heap.size + 2, 2, none⟩ (.bool false)).setCell ⟨w.heap.size + 2, 3, none⟩ (.slice d3 (filt bs n).length f3)).heap.size [.slice b0 n0 e0, .slice (some ⟨g, 0, none⟩) (n1 + 1) cap, .bool false, .slice d3 (filt bs n).length f3] (ss, cs ++ [(n, sw)], false, filt bs n)) := mem_own3 (S7.out.but hbt (by omega)) ((MY.out.own (lo := m2) (hi := w7.heap.size) (fun b hb => RY.out b hb)).but hbt (by omega)) (D7.out.but hbt (by omega)) (by omega) (by omega) (by omega) (by omega) (by omega) (by omega)
           have FB := hidden (Below.andBut B7.out hbt (by omega))
           exact ⟨_, _, _, rfl, FIN.out, FB.out⟩
         . have hL' : (60 : Int) <= (n1 : Int) := by omega
           have hL2 : ¬ cs.length < 60 := by omega
           have hok : wrOk ss cs false bs n sw = false := by unfold wrOk; simp [hL2]
           have e1 : wrCS ss cs false bs n sw = cs := by unfold wrCS; rw [hok]; rfl
           have e2 : wrBS ss cs false bs n sw = bs := by unfold wrBS; rw [hok]; rfl
           rw [hok, e1, e2]
           clear hok e1 e2
           have hA : Below w.heap.size w (((w.alloc (.cells #[.slice a0 n0 c0, .slice a1 n1 c1, .bool false, .slice a3 n3 c3] 109)).alloc (.cells #[.int .i64 n] 3)).alloc (.cells #[.slice none 0 0, .slice none 0 0, .bool false, .slice none 0 0] 109)) := (((Below.refl _ _).alloc (Nat.le_refl _) _).alloc (by simp) _).alloc (by simp; omega) _
           have xm : Box (((w.alloc (.cells #[.slice a0 n0 c0, .slice a1 n1 c1, .bool false, .slice a3 n3 c3] 109)).alloc (.cells #[.int .i64 n] 3)).alloc (.cells #[.slice none 0 0, .slice none 0 0, .bool false, .slice none 0 0] 109)) w.heap.size 109 #[.slice a0 n0 c0, .slice a1 n1 c1, .bool false, .slice a3 n3 c3] := ((Box.new w _ _).alloc _).alloc _
           have xn : Box (((w.alloc (.cells #[.slice a0 n0 c0, .slice a1 n1 c1, .bool false, .slice a3 n3 c3] 109)).alloc (.cells #[.int .i64 n] 3)).alloc (.cells #[.slice none 0 0, .slice none 0 0, .bool false, .slice none 0 0] 109)) (w.heap.size + 1) 3 #[.int .i64 n] := by
            have := Box.new (w.alloc (.cells #[.slice a0 n0 c0, .slice a1 n1 c1, .bool false, .slice a3 n3 c3] 109)) 3 #[.int .i64 n]
            rw [show (w.alloc (.cells #[.slice a0 n0 c0, .slice a1 n1 c1, .bool false, .slice a3 n3 c3] 109)).heap.size = w.heap.size + 1 by simp] at this
            exact this.alloc _
           have xr : Box (((w.alloc (.cells #[.slice a0 n0 c0, .slice a1 n1 c1, .bool false, .slice a3 n3 c3] 109)).alloc (.cells #[.int .i64 n] 3)).alloc (.cells #[.slice none 0 0, .slice none 0 0, .bool false, .slice none 0 0] 109)) (w.heap.size + 2) 109 #[.slice none 0 0, .slice none 0 0, .bool false, .slice none 0 0] := by
            have := Box.new ((w.alloc (.cells #[.slice a0 n0 c0, .slice a1 n1 c1, .bool false, .slice a3 n3 c3] 109)).alloc (.cells #[.int .i64 n] 3)) 109 #[.slice none 0 0, .slice none 0 0, .bool false, .slice none 0 0]
            rw [show ((w.alloc (.cells #[.slice a0 n0 c0, .slice a1 n1 c1, .bool false, .slice a3 n3 c3] 109)).alloc (.cells #[.int .i64 n] 3)).heap.size = w.heap.size + 2 by simp] at this
            exact this
           go_enter Tryz.func220, Tryz.ntmps220
           go_wp2_with fail
           generalize hW : ((w.alloc (.cells #[.slice a0 n0 c0, .slice a1 n1 c1, .bool false, .slice a3 n3 c3] 109)).alloc (.cells #[.int .i64 n] 3)).alloc (.cells #[.slice none 0 0, .slice none 0 0, .bool false, .slice none 0 0] 109) = W at hA xm xn xr ⊢
           clear hW
           have zr := xr.lt
           have B0 := hidden hA
           clear hA
           have XM0 := hidden xm
           clear xm
           have XN0 := hidden xn
           clear xn
           have XR0 := hidden xr
           clear xr
           obtain ⟨q0, q1, q2, q3⟩ := XM0.out.cells4
           clear q0 q1 q2 q3
           refine (copyMem_any _ E _ _ _ _ _ _ _ _ _ ss cs false bs (h0.below B0.out) (h1.below B0.out) (h3.below B0.out) hw).mono ?_
           intro e w1 hc
           obtain ⟨b0, b1, b3, e0, e1, e3, m1, m2, rfl, o3, o0, o1, r1, r2, r3, hb1⟩ := copy_shapes hl0 hl1 hl3 hc
           clear hc
           have B1 := hidden (Below.andThen B0.out hb1)
           have XM1 := hidden (XM0.out.below hb1 (by omega))
           have XN1 := hidden (XN0.out.below hb1 (by omega))
           have XR1 := hidden (XR0.out.below hb1 (by omega))
           have z1 := hb1.size
           clear B0 XM0 XN0 XR0 hb1
           have S1 := hidden o0
           clear o0
           have C1 := hidden o1
           clear o1
           have D1 := hidden o3
           clear o3
           have ba : Below w1.heap.size w1 (w1.alloc (.cells #[.slice b0 n0 e0, .slice b1 n1 e1, .bool false, .slice b3 n3 e3] 109)) := (Below.refl _ _).alloc (Nat.le_refl _) _
           have yo := Box.new w1 109 #[.slice b0 n0 e0, .slice b1 n1 e1, .bool false, .slice b3 n3 e3]
           have zo := yo.lt
           have B2 := hidden (Below.andThen B1.out ba)
           have XM2 := hidden (XM1.out.below ba (by omega))
           have XN2 := hidden (XN1.out.below ba (by omega))
           have XR2 := hidden (XR1.out.below ba (by omega))
           have S2 := hidden (S1.out.below ba)
           have C2 := hidden (C1.out.below ba)
           have D2 := hidden (D1.out.below ba)
           have z2 := ba.size
           clear B1 XM1 XN1 XR1 S1 C1 D1 ba
           have XO2 := hidden yo
           clear yo
           have sW : w.heap.size + 2 < W.heap.size := zr
           obtain ⟨q0, q1, q2, q3⟩ := XM2.out.cells4
           go_wp2_with fail
           generalize w1.alloc (.cells #[.slice b0 n0 e0, .slice b1 n1 e1, .bool false, .slice b3 n3 e3] 109) = w2 at B2 XM2 XN2 XR2 S2 C2 D2 XO2 z2 zo q0 q1 q2 q3 ⊢
           refine (implMemOk_any _ E _ _ _ _ _ _ _ _ _ ss cs false bs (h0.below B2.out) (h1.below B2.out) (h3.below B2.out) hw).mono ?_
           rintro e w3 ⟨rfl, hb3⟩
           clear q0 q1 q2 q3
           have B3 := hidden (Below.andThen B2.out hb3)
           have XM3 := hidden (XM2.out.below hb3 (by omega))
           have XN3 := hidden (XN2.out.below hb3 (by omega))
           have XR3 := hidden (XR2.out.below hb3 (by omega))
           have S3 := hidden (S2.out.below hb3)
           have C3 := hidden (C2.out.below hb3)
           have D3 := hidden (D2.out.below hb3)
           have XO3 := hidden (XO2.out.below hb3 (by omega))
           have z3 := hb3.size
           clear B2 XM2 XN2 XR2 S2 C2 D2 XO2 hb3
           obtain ⟨q0, q1, q2, q3⟩ := XM3.out.cells4
           have qn : w3.cell? ⟨w.heap.size + 1, 0, none⟩ = some (.int .i64 n) := XN3.out.cell 0
           go_wp2_with fail
           refine (hasSec_any _ _ _ _ _ _ _ _).mono ?_
           rintro e w4 ⟨rfl, hb4⟩
           clear q0 q1 q2 q3
           clear qn
           have B4 := hidden (Below.andThen B3.out hb4)
           have XM4 := hidden (XM3.out.below hb4 (by omega))
           have XN4 := hidden (XN3.out.below hb4 (by omega))
           have XR4 := hidden (XR3.out.below hb4 (by omega))
           have S4 := hidden (S3.out.below hb4)
           have C4 := hidden (C3.out.below hb4)
           have D4 := hidden (D3.out.below hb4)
           have XO4 := hidden (XO3.out.below hb4 (by omega))
           have z4 := hb4.size
           clear B3 XM3 XN3 XR3 S3 C3 D3 XO3 hb4
           obtain ⟨q0, q1, q2, q3⟩ := XM4.out.cells4
           go_wp2_with fail
           refine (implSecOk_any _ _ _ _ sw hl5 (ints_rd (h5.below B4.out)).1 hw5).mono ?_
           rintro e w5 ⟨rfl, hs5⟩
           clear q0 q1 q2 q3
           have B5 := hidden (Below.andSame B4.out hs5)
           have XM5 := hidden (XM4.out.same hs5)
           have XN5 := hidden (XN4.out.same hs5)
           have XR5 := hidden (XR4.out.same hs5)
           have S5 := hidden (S4.out.same hs5)
           have C5 := hidden (C4.out.same hs5)
           have D5 := hidden (D4.out.same hs5)
           have XO5 := hidden (XO4.out.same hs5)
           have z5 := Nat.le_of_eq hs5.size.symm
           clear B4 XM4 XN4 XR4 S4 C4 D4 XO4 hs5
           obtain ⟨q0, q1, q2, q3⟩ := XM5.out.cells4
           obtain ⟨x0, x1, x2, x3⟩ := XO5.out.cells4
           obtain ⟨p0, p1, p2, p3⟩ := XR5.out.cells4
           have fz := XR5.out.frozen
           have hbt : But (w.heap.size + 2) (w.heap.size + 2 + 1) w5 ((((w5.setCell ⟨w.heap.size + 2, 0, none⟩ (.slice b0 n0 e0)).setCell ⟨w.heap.size + 2, 1, none⟩ (.slice b1 n1 e1)).setCell ⟨w.heap.size + 2, 2, none⟩ (.bool false)).setCell ⟨w.heap.size + 2, 3, none⟩ (.slice b3 n3 e3)) :=
            (((But.setCell (by omega) (by omega) _).trans (But.setCell (by omega) (by omega) _)).trans (But.setCell (by omega) (by omega) _)).trans (But.setCell (by omega) (by omega) _)
           have z99 := hbt.size
           have FIN : Hid ((tMem 159).Own ((((w5.setCell ⟨w.heap.size + 2, 0, none⟩ (.slice b0 n0 e0)).setCell ⟨w.heap.size + 2, 1, none⟩ (.slice b1 n1 e1)).setCell ⟨w.heap.size + 2, 2, none⟩ (.bool false)).setCell ⟨w.heap.size + 2, 3, none⟩ (.slice b3 n3 e3)) w.heap.size ((((w5.setCell ⟨w.heap.size + 2, 0, none⟩ (.slice b0 n0 e0)).setCell ⟨w.heap.size + 2, 1, none⟩ (.slice b1 n1 e1)).setCell ⟨w.heap.size + 2, 2, none⟩ (.bool false)).setCell ⟨w.heap.size + 2, 3, none⟩ (.slice b3 n3 e3)).heap.size [.slice b0 n0 e0, .slice b1 n1 e1, .bool false, .slice b3 n3 e3] (ss, cs, false, bs)) := mem_own3 (S5.out.but hbt (by omega)) (C5.out.but hbt (by omega)) (D5.out.but hbt (by omega)) (by omega) (by omega) (by omega) (by omega) (by omega) (by omega)
           have FB := hidden (Below.andBut B5.out hbt (by omega))
           clear hbt
           go_wp2
           refine bodyPost_ret (v := .tuple #[.agg #[.slice b0 n0 e0, .slice b1 n1 e1, .bool false, .slice b3 n3 e3], .bool false]) (by simp [results, Tryz.results220, go_sem, p0, p1, p2, p3]) rfl ?_
           exact ⟨_, _, _, rfl, FIN.out, FB.out⟩
       . have hS : secB sw = false := by simpa using hS
         have hok : wrOk ss cs false bs n sw = false := by unfold wrOk; simp [hS]
         have e1 : wrCS ss cs false bs n sw = cs := by unfold wrCS; rw [hok]; rfl
         have e2 : wrBS ss cs false bs n sw = bs := by unfold wrBS; rw [hok]; rfl
         rw [hok, e1, e2]
         clear hok e1 e2
         have hA : Below w.heap.size w (((w.alloc (.cells #[.slice a0 n0 c0, .slice a1 n1 c1, .bool false, .slice a3 n3 c3] 109)).alloc (.cells #[.int .i64 n] 3)).alloc (.cells #[.slice none 0 0, .slice none 0 0, .bool false, .slice none 0 0] 109)) := (((Below.refl _ _).alloc (Nat.le_refl _) _).alloc (by simp) _).alloc (by simp; omega) _
         have xm : Box (((w.alloc (.cells #[.slice a0 n0 c0, .slice a1 n1 c1, .bool false, .slice a3 n3 c3] 109)).alloc (.cells #[.int .i64 n] 3)).alloc (.cells #[.slice none 0 0, .slice none 0 0, .bool false, .slice none 0 0] 109)) w.heap.size 109 #[.slice a0 n0 c0, .slice a1 n1 c1, .bool false, .slice a3 n3 c3] := ((Box.new w _ _).alloc _).alloc _
         have xn : Box (((w.alloc (.cells #[.slice a0 n0 c0, .slice a1 n1 c1, .bool false, .slice a3 n3 c3] 109)).alloc (.cells #[.int .i64 n] 3)).alloc (.cells #[.slice none 0 0, .slice none 0 0, .bool false, .slice none 0 0] 109)) (w.heap.size + 1) 3 #[.int .i64 n] := by
          have := Box.new (w.alloc (.cells #[.slice a0 n0 c0, .slice a1 n1 c1, .bool false, .slice a3 n3 c3] 109)) 3 #[.int .i64 n]
          rw [show (w.alloc (.cells #[.slice a0 n0 c0, .slice a1 n1 c1, .bool false, .slice a3 n3 c3] 109)).heap.size = w.heap.size + 1 by simp] at this
          exact this.alloc _
         have xr : Box (((w.alloc (.cells #[.slice a0 n0 c0, .slice a1 n1 c1, .bool false, .slice a3 n3 c3] 109)).alloc (.cells #[.int .i64 n] 3)).alloc (.cells #[.slice none 0 0, .slice none 0 0, .bool false, .slice none 0 0] 109)) (w.heap.size + 2) 109 #[.slice none 0 0, .slice none 0 0, .bool false, .slice none 0 0] := by
          have := Box.new ((w.alloc (.cells #[.slice a0 n0 c0, .slice a1 n1 c1, .bool false, .slice a3 n3 c3] 109)).alloc (.cells #[.int .i64 n] 3)) 109 #[.slice none 0 0, .slice none 0 0, .bool false, .slice none 0 0]
          rw [show ((w.alloc (.cells #[.slice a0 n0 c0, .slice a1 n1 c1, .bool false, .slice a3 n3 c3] 109)).alloc (.cells #[.int .i64 n] 3)).heap.size = w.heap.size + 2 by simp] at this
          exact this
         go_enter Tryz.func220, Tryz.ntmps220
         go_wp2_with fail
         generalize hW : ((w.alloc (.cells #[.slice a0 n0 c0, .slice a1 n1 c1, .bool false, .slice a3 n3 c3] 109)).alloc (.cells #[.int .i64 n] 3)).alloc (.cells #[.slice none 0 0, .slice none 0 0, .bool false, .slice none 0 0] 109) = W at hA xm xn xr ⊢
         clear hW
         have zr := xr.lt
         have B0 := hidden hA
         clear hA
         have XM0 := hidden xm
         clear xm
         have XN0 := hidden xn
         clear xn
         have XR0 := hidden xr
         clear xr
         obtain ⟨q0, q1, q2, q3⟩ := XM0.out.cells4
         clear q0 q1 q2 q3
         refine (copyMem_any _ E _ _ _ _ _ _ _ _ _ ss cs false bs (h0.below B0.out) (h1.below B0.out) (h3.below B0.out) hw).mono ?_
         intro e w1 hc
         obtain ⟨b0, b1, b3, e0, e1, e3, m1, m2, rfl, o3, o0, o1, r1, r2, r3, hb1⟩ := copy_shapes hl0 hl1 hl3 hc
         clear hc
         have B1 := hidden (Below.andThen B0.out hb1)
         have XM1 := hidden (XM0.out.below hb1 (by omega))
         have XN1 := hidden (XN0.out.below hb1 (by omega))
         have XR1 := hidden (XR0.out.below hb1 (by omega))
         have z1 := hb1.size
         clear B0 XM0 XN0 XR0 hb1
         have S1 := hidden o0
         clear o0
         have C1 := hidden o1
         clear o1
         have D1 := hidden o3
         clear o3
         have ba : Below w1.heap.size w1 (w1.alloc (.cells #[.slice b0 n0 e0, .slice b1 n1 e1, .bool false, .slice b3 n3 e3] 109)) := (Below.refl _ _).alloc (Nat.le_refl _) _
         have yo := Box.new w1 109 #[.slice b0 n0 e0, .slice b1 n1 e1, .bool false, .slice b3 n3 e3]
         have zo := yo.lt
         have B2 := hidden (Below.andThen B1.out ba)
         have XM2 := hidden (XM1.out.below ba (by omega))
         have XN2 := hidden (XN1.out.below ba (by omega))
         have XR2 := hidden (XR1.out.below ba (by omega))
         have S2 := hidden (S1.out.below ba)
         have C2 := hidden (C1.out.below ba)
         have D2 := hidden (D1.out.below ba)
         have z2 := ba.size
         clear B1 XM1 XN1 XR1 S1 C1 D1 ba
         have XO2 := hidden yo
         clear yo
         have sW : w.heap.size + 2 < W.heap.size := zr
         obtain ⟨q0, q1, q2, q3⟩ := XM2.out.cells4
         go_wp2_with fail
         generalize w1.alloc (.cells #[.slice b0 n0 e0, .slice b1 n1 e1, .bool false, .slice b3 n3 e3] 109) = w2 at B2 XM2 XN2 XR2 S2 C2 D2 XO2 z2 zo q0 q1 q2 q3 ⊢
         refine (implMemOk_any _ E _ _ _ _ _ _ _ _ _ ss cs false bs (h0.below B2.out) (h1.below B2.out) (h3.below B2.out) hw).mono ?_
         rintro e w3 ⟨rfl, hb3⟩
         clear q0 q1 q2 q3
         have B3 := hidden (Below.andThen B2.out hb3)
         have XM3 := hidden (XM2.out.below hb3 (by omega))
         have XN3 := hidden (XN2.out.below hb3 (by omega))
         have XR3 := hidden (XR2.out.below hb3 (by omega))
         have S3 := hidden (S2.out.below hb3)
         have C3 := hidden (C2.out.below hb3)
         have D3 := hidden (D2.out.below hb3)
         have XO3 := hidden (XO2.out.below hb3 (by omega))
         have z3 := hb3.size
         clear B2 XM2 XN2 XR2 S2 C2 D2 XO2 hb3
         obtain ⟨q0, q1, q2, q3⟩ := XM3.out.cells4
         have qn : w3.cell? ⟨w.heap.size + 1, 0, none⟩ = some (.int .i64 n) := XN3.out.cell 0
         go_wp2_with fail
         refine (hasSec_any _ _ _ _ _ _ _ _).mono ?_
         rintro e w4 ⟨rfl, hb4⟩
         clear q0 q1 q2 q3
         clear qn
         have B4 := hidden (Below.andThen B3.out hb4)
         have XM4 := hidden (XM3.out.below hb4 (by omega))
         have XN4 := hidden (XN3.out.below hb4 (by omega))
         have XR4 := hidden (XR3.out.below hb4 (by omega))
         have S4 := hidden (S3.out.below hb4)
         have C4 := hidden (C3.out.below hb4)
         have D4 := hidden (D3.out.below hb4)
         have XO4 := hidden (XO3.out.below hb4 (by omega))
         have z4 := hb4.size
         clear B3 XM3 XN3 XR3 S3 C3 D3 XO3 hb4
         obtain ⟨q0, q1, q2, q3⟩ := XM4.out.cells4
         go_wp2_with fail
         refine (implSecOk_any _ _ _ _ sw hl5 (ints_rd (h5.below B4.out)).1 hw5).mono ?_
         rintro e w5 ⟨rfl, hs5⟩
         clear q0 q1 q2 q3
         have B5 := hidden (Below.andSame B4.out hs5)
         have XM5 := hidden (XM4.out.same hs5)
         have XN5 := hidden (XN4.out.same hs5)
         have XR5 := hidden (XR4.out.same hs5)
         have S5 := hidden (S4.out.same hs5)
         have C5 := hidden (C4.out.same hs5)
         have D5 := hidden (D4.out.same hs5)
         have XO5 := hidden (XO4.out.same hs5)
         have z5 := Nat.le_of_eq hs5.size.symm
         clear B4 XM4 XN4 XR4 S4 C4 D4 XO4 hs5
         obtain ⟨q0, q1, q2, q3⟩ := XM5.out.cells4
         obtain ⟨x0, x1, x2, x3⟩ := XO5.out.cells4
         obtain ⟨p0, p1, p2, p3⟩ := XR5.out.cells4
         have fz := XR5.out.frozen
         have hbt : But (w.heap.size + 2) (w.heap.size + 2 + 1) w5 ((((w5.setCell ⟨w.heap.size + 2, 0, none⟩ (.slice b0 n0 e0)).setCell ⟨w.heap.size + 2, 1, none⟩ (.slice b1 n1 e1)).setCell ⟨w.heap.size + 2, 2, none⟩ (.bool false)).setCell ⟨w.heap.size + 2, 3, none⟩ (.slice b3 n3 e3)) :=
          (((But.setCell (by omega) (by omega) _).trans (But.setCell (by omega) (by omega) _)).trans (But.setCell (by omega) (by omega) _)).trans (But.setCell (by omega) (by omega) _)
         have z99 := hbt.size
         have FIN : Hid ((tMem 159).Own ((((w5.setCell ⟨w.heap.size + 2, 0, none⟩ (.slice b0 n0 e0)).setCell ⟨w.heap.size + 2, 1, none⟩ (.slice b1 n1 e1)).setCell ⟨w.heap.size + 2, 2, none⟩ (.bool false)).setCell ⟨w.heap.size + 2, 3, none⟩ (.slice b3 n3 e3)) w.heap.size ((((w5.setCell ⟨w.heap.size + 2, 0, none⟩ (.slice b0 n0 e0)).setCell ⟨w.heap.size + 2, 1, none⟩ (.slice b1 n1 e1)).setCell ⟨w.heap.size + 2, 2, none⟩ (.bool false)).setCell ⟨w.heap.size + 2, 3, none⟩ (.slice b3 n3 e3)).heap.size [.slice b0 n0 e0, .slice b1 n1 e1, .bool false, .slice b3 n3 e3] (ss, cs, false, bs)) := mem_own3 (S5.out.but hbt (by omega)) (C5.out.but hbt (by omega)) (D5.out.but hbt (by omega)) (by omega) (by omega) (by omega) (by omega) (by omega) (by omega)
         have FB := hidden (Below.andBut B5.out hbt (by omega))
         clear hbt
         go_wp2
         refine bodyPost_ret (v := .tuple #[.agg #[.slice b0 n0 e0, .slice b1 n1 e1, .bool false, .slice b3 n3 e3], .bool false]) (by simp [results, Tryz.results220, go_sem, p0, p1, p2, p3]) rfl ?_
         exact ⟨_, _, _, rfl, FIN.out, FB.out⟩
     . have hI : inB n 0 ((n0 : Int) - 1) = false := by simpa using hI
       have hI2 : inB n 0 ((ss.length : Int) - 1) = false := by rw [hl0]; exact hI
       have hok : wrOk ss cs false bs n sw = false := by unfold wrOk; simp [hI2]
       have e1 : wrCS ss cs false bs n sw = cs := by unfold wrCS; rw [hok]; rfl
       have e2 : wrBS ss cs false bs n sw = bs := by unfold wrBS; rw [hok]; rfl
       rw [hok, e1, e2]
       clear hok e1 e2
       have hA : Below w.heap.size w (((w.alloc (.cells #[.slice a0 n0 c0, .slice a1 n1 c1, .bool false, .slice a3 n3 c3] 109)).alloc (.cells #[.int .i64 n] 3)).alloc (.cells #[.slice none 0 0, .slice none 0 0, .bool false, .slice none 0 0] 109)) := (((Below.refl _ _).alloc (Nat.le_refl _) _).alloc (by simp) _).alloc (by simp; omega) _
       have xm : Box (((w.alloc (.cells #[.slice a0 n0 c0, .slice a1 n1 c1, .bool false, .slice a3 n3 c3] 109)).alloc (.cells #[.int .i64 n] 3)).alloc (.cells #[.slice none 0 0, .slice none 0 0, .bool false, .slice none 0 0] 109)) w.heap.size 109 #[.slice a0 n0 c0, .slice a1 n1 c1, .bool false, .slice a3 n3 c3] := ((Box.new w _ _).alloc _).alloc _
       have xn : Box (((w.alloc (.cells #[.slice a0 n0 c0, .slice a1 n1 c1, .bool false, .slice a3 n3 c3] 109)).alloc (.cells #[.int .i64 n] 3)).alloc (.cells #[.slice none 0 0, .slice none 0 0, .bool false, .slice none 0 0] 109)) (w.heap.size + 1) 3 #[.int .i64 n] := by
        have := Box.new (w.alloc (.cells #[.slice a0 n0 c0, .slice a1 n1 c1, .bool false, .slice a3 n3 c3] 109)) 3 #[.int .i64 n]
        rw [show (w.alloc (.cells #[.slice a0 n0 c0, .slice a1 n1 c1, .bool false, .slice a3 n3 c3] 109)).heap.size = w.heap.size + 1 by simp] at this
        exact this.alloc _
       have xr : Box (((w.alloc (.cells #[.slice a0 n0 c0, .slice a1 n1 c1, .bool false, .slice a3 n3 c3] 109)).alloc (.cells #[.int .i64 n] 3)).alloc (.cells #[.slice none 0 0, .slice none 0 0, .bool false, .slice none 0 0] 109)) (w.heap.size + 2) 109 #[.slice none 0 0, .slice none 0 0, .bool false, .slice none 0 0] := by
        have := Box.new ((w.alloc (.cells #[.slice a0 n0 c0, .slice a1 n1 c1, .bool false, .slice a3 n3 c3] 109)).alloc (.cells #[.int .i64 n] 3)) 109 #[.slice none 0 0, .slice none 0 0, .bool false, .slice none 0 0]
        rw [show ((w.alloc (.cells #[.slice a0 n0 c0, .slice a1 n1 c1, .bool false, .slice a3 n3 c3] 109)).alloc (.cells #[.int .i64 n] 3)).heap.size = w.heap.size + 2 by simp] at this
        exact this
       go_enter Tryz.func220, Tryz.ntmps220
       go_wp2_with fail
       generalize hW : ((w.alloc (.cells #[.slice a0 n0 c0, .slice a1 n1 c1, .bool false, .slice a3 n3 c3] 109)).alloc (.cells #[.int .i64 n] 3)).alloc (.cells #[.slice none 0 0, .slice none 0 0, .bool false, .slice none 0 0] 109) = W at hA xm xn xr ⊢
       clear hW
       have zr := xr.lt
       have B0 := hidden hA
       clear hA
       have XM0 := hidden xm
       clear xm
       have XN0 := hidden xn
       clear xn
       have XR0 := hidden xr
       clear xr
       obtain ⟨q0, q1, q2, q3⟩ := XM0.out.cells4
       clear q0 q1 q2 q3
       refine (copyMem_any _ E _ _ _ _ _ _ _ _ _ ss cs false bs (h0.below B0.out) (h1.below B0.out) (h3.below B0.out) hw).mono ?_
       intro e w1 hc
       obtain ⟨b0, b1, b3, e0, e1, e3, m1, m2, rfl, o3, o0, o1, r1, r2, r3, hb1⟩ := copy_shapes hl0 hl1 hl3 hc
       clear hc
       have B1 := hidden (Below.andThen B0.out hb1)
       have XM1 := hidden (XM0.out.below hb1 (by omega))
       have XN1 := hidden (XN0.out.below hb1 (by omega))
       have XR1 := hidden (XR0.out.below hb1 (by omega))
       have z1 := hb1.size
       clear B0 XM0 XN0 XR0 hb1
       have S1 := hidden o0
       clear o0
       have C1 := hidden o1
       clear o1
       have D1 := hidden o3
       clear o3
       have ba : Below w1.heap.size w1 (w1.alloc (.cells #[.slice b0 n0 e0, .slice b1 n1 e1, .bool false, .slice b3 n3 e3] 109)) := (Below.refl _ _).alloc (Nat.le_refl _) _
       have yo := Box.new w1 109 #[.slice b0 n0 e0, .slice b1 n1 e1, .bool false, .slice b3 n3 e3]
       have zo := yo.lt
       have B2 := hidden (Below.andThen B1.out ba)
       have XM2 := hidden (XM1.out.below ba (by omega))
       have XN2 := hidden (XN1.out.below ba (by omega))
       have XR2 := hidden (XR1.out.below ba (by omega))
       have S2 := hidden (S1.out.below ba)
       have C2 := hidden (C1.out.below ba)
       have D2 := hidden (D1.out.below ba)
       have z2 := ba.size
       clear B1 XM1 XN1 XR1 S1 C1 D1 ba
       have XO2 := hidden yo
       clear yo
       have sW : w.heap.size + 2 < W.heap.size := zr
       obtain ⟨q0, q1, q2, q3⟩ := XM2.out.cells4
       go_wp2_with fail
       generalize w1.alloc (.cells #[.slice b0 n0 e0, .slice b1 n1 e1, .bool false, .slice b3 n3 e3] 109) = w2 at B2 XM2 XN2 XR2 S2 C2 D2 XO2 z2 zo q0 q1 q2 q3 ⊢
       refine (implMemOk_any _ E _ _ _ _ _ _ _ _ _ ss cs false bs (h0.below B2.out) (h1.below B2.out) (h3.below B2.out) hw).mono ?_
       rintro e w3 ⟨rfl, hb3⟩
       clear q0 q1 q2 q3
       have B3 := hidden (Below.andThen B2.out hb3)
       have XM3 := hidden (XM2.out.below hb3 (by omega))
       have XN3 := hidden (XN2.out.below hb3 (by omega))
       have XR3 := hidden (XR2.out.below hb3 (by omega))
       have S3 := hidden (S2.out.below hb3)
       have C3 := hidden (C2.out.below hb3)
       have D3 := hidden (D2.out.below hb3)
       have XO3 := hidden (XO2.out.below hb3 (by omega))
       have z3 := hb3.size
       clear B2 XM2 XN2 XR2 S2 C2 D2 XO2 hb3
       obtain ⟨q0, q1, q2, q3⟩ := XM3.out.cells4
       have qn : w3.cell? ⟨w.heap.size + 1, 0, none⟩ = some (.int .i64 n) := XN3.out.cell 0
       go_wp2_with fail
       refine (hasSec_any _ _ _ _ _ _ _ _).mono ?_
       rintro e w4 ⟨rfl, hb4⟩
       clear q0 q1 q2 q3
       clear qn
       have B4 := hidden (Below.andThen B3.out hb4)
       have XM4 := hidden (XM3.out.below hb4 (by omega))
       have XN4 := hidden (XN3.out.below hb4 (by omega))
       have XR4 := hidden (XR3.out.below hb4 (by omega))
       have S4 := hidden (S3.out.below hb4)
       have C4 := hidden (C3.out.below hb4)
       have D4 := hidden (D3.out.below hb4)
       have XO4 := hidden (XO3.out.below hb4 (by omega))
       have z4 := hb4.size
       clear B3 XM3 XN3 XR3 S3 C3 D3 XO3 hb4
       obtain ⟨q0, q1, q2, q3⟩ := XM4.out.cells4
       obtain ⟨x0, x1, x2, x3⟩ := XO4.out.cells4
       obtain ⟨p0, p1, p2, p3⟩ := XR4.out.cells4
       have fz := XR4.out.frozen
       have hbt : But (w.heap.size + 2) (w.heap.size + 2 + 1) w4 ((((w4.setCell ⟨w.heap.size + 2, 0, none⟩ (.slice b0 n0 e0)).setCell ⟨w.heap.size + 2, 1, none⟩ (.slice b1 n1 e1)).setCell ⟨w.heap.size + 2, 2, none⟩ (.bool false)).setCell ⟨w.heap.size + 2, 3, none⟩ (.slice b3 n3 e3)) :=
        (((But.setCell (by omega) (by omega) _).trans (But.setCell (by omega) (by omega) _)).trans (But.setCell (by omega) (by omega) _)).trans (But.setCell (by omega) (by omega) _)
       have z99 := hbt.size
       have FIN : Hid ((tMem 159).Own ((((w4.setCell ⟨w.heap.size + 2, 0, none⟩ (.slice b0 n0 e0)).setCell ⟨w.heap.size + 2, 1, none⟩ (.slice b1 n1 e1)).setCell ⟨w.heap.size + 2, 2, none⟩ (.bool false)).setCell ⟨w.heap.size + 2, 3, none⟩ (.slice b3 n3 e3)) w.heap.size ((((w4.setCell ⟨w.heap.size + 2, 0, none⟩ (.slice b0 n0 e0)).setCell ⟨w.heap.size + 2, 1, none⟩ (.slice b1 n1 e1)).setCell ⟨w.heap.size + 2, 2, none⟩ (.bool false)).setCell ⟨w.heap.size + 2, 3, none⟩ (.slice b3 n3 e3)).heap.size [.slice b0 n0 e0, .slice b1 n1 e1, .bool false, .slice b3 n3 e3] (ss, cs, false, bs)) := mem_own3 (S4.out.but hbt (by omega)) (C4.out.but hbt (by omega)) (D4.out.but hbt (by omega)) (by omega) (by omega) (by omega) (by omega) (by omega) (by omega)
       have FB := hidden (Below.andBut B4.out hbt (by omega))
       clear hbt
       go_wp2
       refine bodyPost_ret (v := .tuple #[.agg #[.slice b0 n0 e0, .slice b1 n1 e1, .bool false, .slice b3 n3 e3], .bool false]) (by simp [results, Tryz.results220, go_sem, p0, p1, p2, p3]) rfl ?_
       exact ⟨_, _, _, rfl, FIN.out, FB.out⟩
 . have hM : memB ss cs bs = false := by simpa using hM
   have hok : wrOk ss cs f bs n sw = false := by unfold wrOk; simp [hM]
   have e1 : wrCS ss cs f bs n sw = cs := by unfold wrCS; rw [hok]; rfl
   have e2 : wrBS ss cs f bs n sw = bs := by unfold wrBS; rw [hok]; rfl
   rw [hok, e1, e2]
   clear hok e1 e2
   have hA : Below w.heap.size w (((w.alloc (.cells #[.slice a0 n0 c0, .slice a1 n1 c1, .bool f, .slice a3 n3 c3] 109)).alloc (.cells #[.int .i64 n] 3)).alloc (.cells #[.slice none 0 0, .slice none 0 0, .bool false, .slice none 0 0] 109)) := (((Below.refl _ _).alloc (Nat.le_refl _) _).alloc (by simp) _).alloc (by simp; omega) _
   have xm : Box (((w.alloc (.cells #[.slice a0 n0 c0, .slice a1 n1 c1, .bool f, .slice a3 n3 c3] 109)).alloc (.cells #[.int .i64 n] 3)).alloc (.cells #[.slice none 0 0, .slice none 0 0, .bool false, .slice none 0 0] 109)) w.heap.size 109 #[.slice a0 n0 c0, .slice a1 n1 c1, .bool f, .slice a3 n3 c3] := ((Box.new w _ _).alloc _).alloc _
   have xn : Box (((w.alloc (.cells #[.slice a0 n0 c0, .slice a1 n1 c1, .bool f, .slice a3 n3 c3] 109)).alloc (.cells #[.int .i64 n] 3)).alloc (.cells #[.slice none 0 0, .slice none 0 0, .bool false, .slice none 0 0] 109)) (w.heap.size + 1) 3 #[.int .i64 n] := by
    have := Box.new (w.alloc (.cells #[.slice a0 n0 c0, .slice a1 n1 c1, .bool f, .slice a3 n3 c3] 109)) 3 #[.int .i64 n]
    rw [show (w.alloc (.cells #[.slice a0 n0 c0, .slice a1 n1 c1, .bool f, .slice a3 n3 c3] 109)).heap.size = w.heap.size + 1 by simp] at this
    exact this.alloc _
   have xr : Box (((w.alloc (.cells #[.slice a0 n0 c0, .slice a1 n1 c1, .bool f, .slice a3 n3 c3] 109)).alloc (.cells #[.int .i64 n] 3)).alloc (.cells #[.slice none 0 0, .slice none 0 0, .bool false, .slice none 0 0] 109)) (w.heap.size + 2) 109 #[.slice none 0 0, .slice none 0 0, .bool false, .slice none 0 0] := by
    have := Box.new ((w.alloc (.cells #[.slice a0 n0 c0, .slice a1 n1 c1, .bool f, .slice a3 n3 c3] 109)).alloc (.cells #[.int .i64 n] 3)) 109 #[.slice none 0 0, .slice none 0 0, .bool false, .slice none 0 0]
    rw [show ((w.alloc (.cells #[.slice a0 n0 c0, .slice a1 n1 c1, .bool f, .slice a3 n3 c3] 109)).alloc (.cells #[.int .i64 n] 3)).heap.size = w.heap.size + 2 by simp] at this
    exact this
   go_enter Tryz.func220, Tryz.ntmps220
   go_wp2_with fail
   generalize hW : ((w.alloc (.cells #[.slice a0 n0 c0, .slice a1 n1 c1, .bool f, .slice a3 n3 c3] 109)).alloc (.cells #[.int .i64 n] 3)).alloc (.cells #[.slice none 0 0, .slice none 0 0, .bool false, .slice none 0 0] 109) = W at hA xm xn xr ⊢
   clear hW
   have zr := xr.lt
   have B0 := hidden hA
   clear hA
   have XM0 := hidden xm
   clear xm
   have XN0 := hidden xn
   clear xn
   have XR0 := hidden xr
   clear xr
   obtain ⟨q0, q1, q2, q3⟩ := XM0.out.cells4
   clear q0 q1 q2 q3
   refine (copyMem_any _ E _ _ _ _ _ _ _ _ _ ss cs f bs (h0.below B0.out) (h1.below B0.out) (h3.below B0.out) hw).mono ?_
   intro e w1 hc
   obtain ⟨b0, b1, b3, e0, e1, e3, m1, m2, rfl, o3, o0, o1, r1, r2, r3, hb1⟩ := copy_shapes hl0 hl1 hl3 hc
   clear hc
   have B1 := hidden (Below.andThen B0.out hb1)
   have XM1 := hidden (XM0.out.below hb1 (by omega))
   have XN1 := hidden (XN0.out.below hb1 (by omega))
   have XR1 := hidden (XR0.out.below hb1 (by omega))
   have z1 := hb1.size
   clear B0 XM0 XN0 XR0 hb1
   have S1 := hidden o0
   clear o0
   have C1 := hidden o1
   clear o1
   have D1 := hidden o3
   clear o3
   have ba : Below w1.heap.size w1 (w1.alloc (.cells #[.slice b0 n0 e0, .slice b1 n1 e1, .bool f, .slice b3 n3 e3] 109)) := (Below.refl _ _).alloc (Nat.le_refl _) _
   have yo := Box.new w1 109 #[.slice b0 n0 e0, .slice b1 n1 e1, .bool f, .slice b3 n3 e3]
   have zo := yo.lt
   have B2 := hidden (Below.andThen B1.out ba)
   have XM2 := hidden (XM1.out.below ba (by omega))
   have XN2 := hidden (XN1.out.below ba (by omega))
   have XR2 := hidden (XR1.out.below ba (by omega))
   have S2 := hidden (S1.out.below ba)
   have C2 := hidden (C1.out.below ba)
   have D2 := hidden (D1.out.below ba)
   have z2 := ba.size
   clear B1 XM1 XN1 XR1 S1 C1 D1 ba
   have XO2 := hidden yo
   clear yo
   have sW : w.heap.size + 2 < W.heap.size := zr
   obtain ⟨q0, q1, q2, q3⟩ := XM2.out.cells4
   go_wp2_with fail
   generalize w1.alloc (.cells #[.slice b0 n0 e0, .slice b1 n1 e1, .bool f, .slice b3 n3 e3] 109) = w2 at B2 XM2 XN2 XR2 S2 C2 D2 XO2 z2 zo q0 q1 q2 q3 ⊢
   refine (implMemOk_any _ E _ _ _ _ _ _ _ _ _ ss cs f bs (h0.below B2.out) (h1.below B2.out) (h3.below B2.out) hw).mono ?_
   rintro e w3 ⟨rfl, hb3⟩
   clear q0 q1 q2 q3
   have B3 := hidden (Below.andThen B2.out hb3)
   have XM3 := hidden (XM2.out.below hb3 (by omega))
   have XN3 := hidden (XN2.out.below hb3 (by omega))
   have XR3 := hidden (XR2.out.below hb3 (by omega))
   have S3 := hidden (S2.out.below hb3)
   have C3 := hidden (C2.out.below hb3)
   have D3 := hidden (D2.out.below hb3)
   have XO3 := hidden (XO2.out.below hb3 (by omega))
   have z3 := hb3.size
   clear B2 XM2 XN2 XR2 S2 C2 D2 XO2 hb3
   obtain ⟨q0, q1, q2, q3⟩ := XM3.out.cells4
   obtain ⟨x0, x1, x2, x3⟩ := XO3.out.cells4
   obtain ⟨p0, p1, p2, p3⟩ := XR3.out.cells4
   have fz := XR3.out.frozen
   have hbt : But (w.heap.size + 2) (w.heap.size + 2 + 1) w3 ((((w3.setCell ⟨w.heap.size + 2, 0, none⟩ (.slice b0 n0 e0)).setCell ⟨w.heap.size + 2, 1, none⟩ (.slice b1 n1 e1)).setCell ⟨w.heap.size + 2, 2, none⟩ (.bool f)).setCell ⟨w.heap.size + 2, 3, none⟩ (.slice b3 n3 e3)) :=
    (((But.setCell (by omega) (by omega) _).trans (But.setCell (by omega) (by omega) _)).trans (But.setCell (by omega) (by omega) _)).trans (But.setCell (by omega) (by omega) _)
   have z99 := hbt.size
   have FIN : Hid ((tMem 159).Own ((((w3.setCell ⟨w.heap.size + 2, 0, none⟩ (.slice b0 n0 e0)).setCell ⟨w.heap.size + 2, 1, none⟩ (.slice b1 n1 e1)).setCell ⟨w.heap.size + 2, 2, none⟩ (.bool f)).setCell ⟨w.heap.size + 2, 3, none⟩ (.slice b3 n3 e3)) w.heap.size ((((w3.setCell ⟨w.heap.size + 2, 0, none⟩ (.slice b0 n0 e0)).setCell ⟨w.heap.size + 2, 1, none⟩ (.slice b1 n1 e1)).setCell ⟨w.heap.size + 2, 2, none⟩ (.bool f)).setCell ⟨w.heap.size + 2, 3, none⟩ (.slice b3 n3 e3)).heap.size [.slice b0 n0 e0, .slice b1 n1 e1, .bool f, .slice b3 n3 e3] (ss, cs, f, bs)) := mem_own3 (S3.out.but hbt (by omega)) (C3.out.but hbt (by omega)) (D3.out.but hbt (by omega)) (by omega) (by omega) (by omega) (by omega) (by omega) (by omega)
   have FB := hidden (Below.andBut B3.out hbt (by omega))
   clear hbt
   go_wp2
   refine bodyPost_ret (v := .tuple #[.agg #[.slice b0 n0 e0, .slice b1 n1 e1, .bool f, .slice b3 n3 e3], .bool false]) (by simp [results, Tryz.results220, go_sem, p0, p1, p2, p3]) rfl ?_
   exact ⟨_, _, _, rfl, FIN.out, FB.out⟩

theorem l2Without_any (w : World) (a : Option Addr) (len cap : Nat) (zs : List Int) (n : Int) (h : tIntS.Rd w [.slice a len cap] zs) (hlen : len <= 2097152) :
 Calls Tryz.prog 232 #[.slice a len cap, .int .i64 n] w fun e w' => ∃ v, e = .returned v /\ tIntS.Own w' w.heap.size w'.heap.size [v] (filt zs n) /\ Below w.heap.size w w' := by
 obtain ⟨hr, hl, _, _⟩ := ints_rd h
 obtain ⟨i3, hi3, hx0, hx1, hx2⟩ := info_parts Tryz.info3
 go_enter Tryz.func232, Tryz.ntmps232
 go_wp2
 go_loopw [5, 6] (fun v i wr => ∃ (j : Nat) (fp : List Nat), j <= len /\ i = .int .i64 j /\ tIntS.Mine wr [v] (filt (zs.take j) n) fp /\ (∀ b ∈ fp, w.heap.size <= b) /\ Below w.heap.size w wr) (fun _ i _ => len - (intOf i).toNat)
 case atStart => exact ⟨0, [w.heap.size], Nat.zero_le _, rfl, lit0_mine _, by simp, (Below.refl _ _).alloc (Nat.le_refl _) _⟩
 case round =>
  obtain ⟨j, fp, hj, rfl, hm, hfp, hb⟩ := hrel
  have hs := hb.size
  by_cases hlt : j < len
  . rcases hr.cases with h0 | ⟨b, off, rfl, hbl, hcz⟩
    . omega
    have hc1 := (hb.cell (p := ⟨b, off + j, none⟩) hbl).trans (hcz j (by omega))
    have htk : zs.take (j + 1) = zs.take j ++ [zs.getD j 0] := by rw [List.take_add_one, List.getD_eq_getElem?_getD, List.getElem?_eq_getElem (by omega)]; rfl
    generalize zs.getD j 0 = x at hc1 htk
    have k1 : (0 : Int) <= (j : Int) := by omega
    have k2 : (j : Int) < (len : Int) := by omega
    have HTK := hidden htk
    clear hcz htk
    by_cases hxn : x = n
    . have HF : Hid (filt (zs.take (j + 1)) n = filt (zs.take j) n) := by unfold Hid; rw [HTK.out, filt_snoc, if_pos hxn]
      subst hxn
      go_wp2
      go_roundw
      case rel => exact ⟨j + 1, fp, by omega, by go_num, by rw [HF.out]; exact hm, hfp, hb⟩
      case measure => simp [intOf]; omega
    . have HF : Hid (filt (zs.take (j + 1)) n = filt (zs.take j) n ++ [x]) := by unfold Hid; rw [HTK.out, filt_snoc, if_neg hxn]
      have MA := hidden (hm.alloc (.cells #[.int .i64 x] 3))
      have LI : Hid (intTy.Mine (wr.alloc (.cells #[.int .i64 x] 3)) [.int .i64 x] x []) := ⟨⟨rfl, rfl⟩, by simp⟩
      have NN := hidden (news_new wr #[.int .i64 x] 3)
      have BA := hidden (hb.alloc hs (.cells #[.int .i64 x] 3))
      have ZA : Hid ((wr.alloc (.cells #[.int .i64 x] 3)).heap.size = wr.heap.size + 1) := by unfold Hid; simp
      have hkl := filt_length (zs.take j) n
      rw [List.length_take] at hkl
      have L1 : Hid ((filt (zs.take j) n).length + 1 <= maxLen) := by unfold Hid maxLen; omega
      have L2 : Hid (((filt (zs.take j) n).length + 1) * 8 <= 140737488355328) := by unfold Hid; omega
      have HFP := hidden hfp
      clear hm hfp hb hkl
      go_wp2_with (at_builtin; refine wpList_appT intTy rfl (.tmp 20) (.tmp 25) 30 rfl 3 i3 (.int .i64 0) 8 Tryz.underlying30 hi3 hx0 hx1 hx2 rfl Nat.zero_lt_one u5 (filt (zs.take j) n) fp rfl ?_ ⟨wr.heap.size, 0, none⟩ 1 [.int .i64 x] x [] rfl ?_ ?_ ?_ ?_ ?_ ?_ ?_; exact MA.out; exact LI.out; simp; exact NN.out; (intro u hu; simp at hu; rw [hu]; rfl); exact L1.out; exact L2.out; intro v2 w2 fp2 m1 m2 m3; rw [← HF.out] at m1; have M1 := hidden m1; have M2 := hidden m2; have M3 := hidden m3; clear m1 m2 m3)
      have hf2 : ∀ b ∈ fp2, w.heap.size <= b := fun b hb => by
       rcases M2.out b hb with h | h | h
       . exact HFP.out b h
       . simp at h
       . have h1 := h.1
         have h2 := ZA.out
         omega
      have HB := hidden (BA.out.trans (M3.out.below (N := w.heap.size) (by have := ZA.out; omega) (fun b hb => HFP.out b hb)))
      have HF2 := hidden hf2
      clear hf2
      go_roundw
      case rel => exact ⟨j + 1, fp2, by omega, by go_num, M1.out, HF2.out, HB.out⟩
      case measure => simp [intOf]; omega
  . have e : j = len := by omega
    subst e
    rw [List.take_of_length_le (by omega)] at hm
    have hltb := hm.lt
    have HO := hidden (hm.own (lo := w.heap.size) (hi := wr.heap.size) (fun b hb' => ⟨hfp b hb', hltb b hb'⟩))
    go_wp2
    go_ret
    exact ⟨_, rfl, HO.out, hb⟩

theorem specWriteSec_any (w : World) (E : TypeId) (a0 a1 a3 a5 : Option Addr) (n0 c0 n1 c1 n3 c3 n5 c5 : Nat) (ss : List (List Int)) (cs : List (Int × List Int)) (f : Bool) (bs : List Int) (n : Int) (sw : List Int) (h0 : tIntSS.Rd w [.slice a0 n0 c0] ss) (h1 : (tWrS E).Rd w [.slice a1 n1 c1] cs) (h3 : tIntS.Rd w [.slice a3 n3 c3] bs) (h5 : tIntS.Rd w [.slice a5 n5 c5] sw) (hw : wtMem (ss, cs, f, bs) <= 2097152) (hw5 : n5 <= 2097152) :
 Calls Tryz.prog 188 #[.agg #[.slice a0 n0 c0, .slice a1 n1 c1, .bool f, .slice a3 n3 c3], .int .i64 n, .slice a5 n5 c5] w fun e w' => ∃ v0 v1 v3, e = .returned (.tuple #[.agg #[v0, v1, .bool f, v3], .bool (wrOk ss cs f bs n sw)]) /\ (tMem 159).Own w' w.heap.size w'.heap.size [v0, v1, .bool f, v3] (ss, wrCS ss cs f bs n sw, f, wrBS ss cs f bs n sw) /\ Below w.heap.size w w' := by
 obtain ⟨hl0, _, hm0⟩ := row_length h0
 obtain ⟨hl1, _, hm1⟩ := row_length h1
 obtain ⟨hl3, _, hm3⟩ := row_length h3
 obtain ⟨hl5, _, hm5⟩ := row_length h5
 by_cases hM : memB ss cs bs = true
 . by_cases hf : f = true
   . subst hf
     have hok : wrOk ss cs true bs n sw = false := by unfold wrOk; simp [hM]
     have e1 : wrCS ss cs true bs n sw = cs := by unfold wrCS; rw [hok]; rfl
     have e2 : wrBS ss cs true bs n sw = bs := by unfold wrBS; rw [hok]; rfl
     rw [hok, e1, e2]
     clear hok e1 e2
     have hA : Below w.heap.size w ((w.alloc (.cells #[.slice a0 n0 c0, .slice a1 n1 c1, .bool true, .slice a3 n3 c3] 109)).alloc (.cells #[.slice none 0 0, .slice none 0 0, .bool false, .slice none 0 0] 109)) := ((Below.refl _ _).alloc (Nat.le_refl _) _).alloc (by simp) _
     have xm : Box ((w.alloc (.cells #[.slice a0 n0 c0, .slice a1 n1 c1, .bool true, .slice a3 n3 c3] 109)).alloc (.cells #[.slice none 0 0, .slice none 0 0, .bool false, .slice none 0 0] 109)) w.heap.size 109 #[.slice a0 n0 c0, .slice a1 n1 c1, .bool true, .slice a3 n3 c3] := (Box.new w _ _).alloc _
     have xr : Box ((w.alloc (.cells #[.slice a0 n0 c0, .slice a1 n1 c1, .bool true, .slice a3 n3 c3] 109)).alloc (.cells #[.slice none 0 0, .slice none 0 0, .bool false, .slice none 0 0] 109)) (w.heap.size + 1) 109 #[.slice none 0 0, .slice none 0 0, .bool false, .slice none 0 0] := by
      have := Box.new (w.alloc (.cells #[.slice a0 n0 c0, .slice a1 n1 c1, .bool true, .slice a3 n3 c3] 109)) 109 #[.slice none 0 0, .slice none 0 0, .bool false, .slice none 0 0]
      rw [show (w.alloc (.cells #[.slice a0 n0 c0, .slice a1 n1 c1, .bool true, .slice a3 n3 c3] 109)).heap.size = w.heap.size + 1 by simp] at this
      exact this
     go_enter Tryz.func188, Tryz.ntmps188
     go_wp2_with fail
     generalize hW : (w.alloc (.cells #[.slice a0 n0 c0, .slice a1 n1 c1, .bool true, .slice a3 n3 c3] 109)).alloc (.cells #[.slice none 0 0, .slice none 0 0, .bool false, .slice none 0 0] 109) = W at hA xm xr ⊢
     clear hW
     have zr := xr.lt
     have B0 := hidden hA
     clear hA
     have XM0 := hidden xm
     clear xm
     have XR0 := hidden xr
     clear xr
     obtain ⟨q0, q1, q2, q3⟩ := XM0.out.cells4
     clear q0 q1 q2 q3
     refine (l2Copy_any _ E _ _ _ _ _ _ _ _ _ ss cs true bs (h0.below B0.out) (h1.below B0.out) (h3.below B0.out) hw).mono ?_
     intro e w1 hc
     obtain ⟨b0, b1, b3, e0, e1, e3, m1, m2, rfl, o3, o0, o1, r1, r2, r3, hb1⟩ := copy_shapes hl0 hl1 hl3 hc
     clear hc
     have B1 := hidden (Below.andThen B0.out hb1)
     have XM1 := hidden (XM0.out.below hb1 (by omega))
     have XR1 := hidden (XR0.out.below hb1 (by omega))
     have z1 := hb1.size
     clear B0 XM0 XR0 hb1
     have S1 := hidden o0
     clear o0
     have C1 := hidden o1
     clear o1
     have D1 := hidden o3
     clear o3
     have ba : Below w1.heap.size w1 (w1.alloc (.cells #[.slice b0 n0 e0, .slice b1 n1 e1, .bool true, .slice b3 n3 e3] 109)) := (Below.refl _ _).alloc (Nat.le_refl _) _
     have yo := Box.new w1 109 #[.slice b0 n0 e0, .slice b1 n1 e1, .bool true, .slice b3 n3 e3]
     have zo := yo.lt
     have B2 := hidden (Below.andThen B1.out ba)
     have XM2 := hidden (XM1.out.below ba (by omega))
     have XR2 := hidden (XR1.out.below ba (by omega))
     have S2 := hidden (S1.out.below ba)
     have C2 := hidden (C1.out.below ba)
     have D2 := hidden (D1.out.below ba)
     have z2 := ba.size
     clear B1 XM1 XR1 S1 C1 D1 ba
     have XO2 := hidden yo
     clear yo
     have sW : w.heap.size + 1 < W.heap.size := zr
     obtain ⟨q0, q1, q2, q3⟩ := XM2.out.cells4
     go_wp2_with fail
     generalize w1.alloc (.cells #[.slice b0 n0 e0, .slice b1 n1 e1, .bool true, .slice b3 n3 e3] 109) = w2 at B2 XM2 XR2 S2 C2 D2 XO2 z2 zo q0 q1 q2 q3 ⊢
     refine (specMemOk_any _ E _ _ _ _ _ _ _ _ _ ss cs true bs (h0.below B2.out) (h1.below B2.out) (h3.below B2.out) hw).mono ?_
     rintro e w3 ⟨rfl, hb3⟩
     clear q0 q1 q2 q3
     have B3 := hidden (Below.andThen B2.out hb3)
     have XM3 := hidden (XM2.out.below hb3 (by omega))
     have XR3 := hidden (XR2.out.below hb3 (by omega))
     have S3 := hidden (S2.out.below hb3)
     have C3 := hidden (C2.out.below hb3)
     have D3 := hidden (D2.out.below hb3)
     have XO3 := hidden (XO2.out.below hb3 (by omega))
     have z3 := hb3.size
     clear B2 XM2 XR2 S2 C2 D2 XO2 hb3
     obtain ⟨q0, q1, q2, q3⟩ := XM3.out.cells4
     obtain ⟨x0, x1, x2, x3⟩ := XO3.out.cells4
     obtain ⟨p0, p1, p2, p3⟩ := XR3.out.cells4
     have fz := XR3.out.frozen
     have hbt : But (w.heap.size + 1) (w.heap.size + 1 + 1) w3 ((((w3.setCell ⟨w.heap.size + 1, 0, none⟩ (.slice b0 n0 e0)).setCell ⟨w.heap.size + 1, 1, none⟩ (.slice b1 n1 e1)).setCell ⟨w.heap.size + 1, 2, none⟩ (.bool true)).setCell ⟨w.heap.size + 1, 3, none⟩ (.slice b3 n3 e3)) :=
      (((But.setCell (by omega) (by omega) _).trans (But.setCell (by omega) (by omega) _)).trans (But.setCell (by omega) (by omega) _)).trans (But.setCell (by omega) (by omega) _)
     have z99 := hbt.size
     have FIN : Hid ((tMem 159).Own ((((w3.setCell ⟨w.heap.size + 1, 0, none⟩ (.slice b0 n0 e0)).setCell ⟨w.heap.size + 1, 1, none⟩ (.slice b1 n1 e1)).setCell ⟨w.heap.size + 1, 2, none⟩ (.bool true)).setCell ⟨w.heap.size + 1, 3, none⟩ (.slice b3 n3 e3)) w.heap.size ((((w3.setCell ⟨w.heap.size + 1, 0, none⟩ (.slice b0 n0 e0)).setCell ⟨w.heap.size + 1, 1, none⟩ (.slice b1 n1 e1)).setCell ⟨w.heap.size + 1, 2, none⟩ (.bool true)).setCell ⟨w.heap.size + 1, 3, none⟩ (.slice b3 n3 e3)).heap.size [.slice b0 n0 e0, .slice b1 n1 e1, .bool true, .slice b3 n3 e3] (ss, cs, true, bs)) := mem_own3 (S3.out.but hbt (by omega)) (C3.out.but hbt (by omega)) (D3.out.but hbt (by omega)) (by omega) (by omega) (by omega) (by omega) (by omega) (by omega)
     have FB := hidden (Below.andBut B3.out hbt (by omega))
     clear hbt
     go_wp2
     refine bodyPost_ret (v := .tuple #[.agg #[.slice b0 n0 e0, .slice b1 n1 e1, .bool true, .slice b3 n3 e3], .bool false]) (by simp [results, Tryz.results188, go_sem, p0, p1, p2, p3]) rfl ?_
     exact ⟨_, _, _, rfl, FIN.out, FB.out⟩
   . have hf : f = false := by simpa using hf
     subst hf
     by_cases hI : inB n 0 ((n0 : Int) - 1) = true
     . by_cases hS : secB sw = true
       . by_cases hL : n1 < 60
         . have hL' : ¬ (60 : Int) <= (n1 : Int) := by omega
           have hok : wrOk ss cs false bs n sw = true := by unfold wrOk; rw [hM, hl0, hI, hS, decide_eq_true (by omega)]; rfl
           have e1 : wrCS ss cs false bs n sw = cs ++ [(n, sw)] := by unfold wrCS; rw [hok]; rfl
           have e2 : wrBS ss cs false bs n sw = filt bs n := by unfold wrBS; rw [hok]; rfl
           rw [hok, e1, e2]
           clear hok e1 e2
           have hA : Below w.heap.size w ((w.alloc (.cells #[.slice a0 n0 c0, .slice a1 n1 c1, .bool false, .slice a3 n3 c3] 109)).alloc (.cells #[.slice none 0 0, .slice none 0 0, .bool false, .slice none 0 0] 109)) := ((Below.refl _ _).alloc (Nat.le_refl _) _).alloc (by simp) _
           have xm : Box ((w.alloc (.cells #[.slice a0 n0 c0, .slice a1 n1 c1, .bool false, .slice a3 n3 c3] 109)).alloc (.cells #[.slice none 0 0, .slice none 0 0, .bool false, .slice none 0 0] 109)) w.heap.size 109 #[.slice a0 n0 c0, .slice a1 n1 c1, .bool false, .slice a3 n3 c3] := (Box.new w _ _).alloc _
           have xr : Box ((w.alloc (.cells #[.slice a0 n0 c0, .slice a1 n1 c1, .bool false, .slice a3 n3 c3] 109)).alloc (.cells #[.slice none 0 0, .slice none 0 0, .bool false, .slice none 0 0] 109)) (w.heap.size + 1) 109 #[.slice none 0 0, .slice none 0 0, .bool false, .slice none 0 0] := by
            have := Box.new (w.alloc (.cells #[.slice a0 n0 c0, .slice a1 n1 c1, .bool false, .slice a3 n3 c3] 109)) 109 #[.slice none 0 0, .slice none 0 0, .bool false, .slice none 0 0]
            rw [show (w.alloc (.cells #[.slice a0 n0 c0, .slice a1 n1 c1, .bool false, .slice a3 n3 c3] 109)).heap.size = w.heap.size + 1 by simp] at this
            exact this
           go_enter Tryz.func188, Tryz.ntmps188
           go_wp2_with fail
           generalize hW : (w.alloc (.cells #[.slice a0 n0 c0, .slice a1 n1 c1, .bool false, .slice a3 n3 c3] 109)).alloc (.cells #[.slice none 0 0, .slice none 0 0, .bool false, .slice none 0 0] 109) = W at hA xm xr ⊢
           clear hW
           have zr := xr.lt
           have B0 := hidden hA
           clear hA
           have XM0 := hidden xm
           clear xm
           have XR0 := hidden xr
           clear xr
           obtain ⟨q0, q1, q2, q3⟩ := XM0.out.cells4
           clear q0 q1 q2 q3
           refine (l2Copy_any _ E _ _ _ _ _ _ _ _ _ ss cs false bs (h0.below B0.out) (h1.below B0.out) (h3.below B0.out) hw).mono ?_
           intro e w1 hc
           obtain ⟨b0, b1, b3, e0, e1, e3, m1, m2, rfl, o3, o0, o1, r1, r2, r3, hb1⟩ := copy_shapes hl0 hl1 hl3 hc
           clear hc
           have B1 := hidden (Below.andThen B0.out hb1)
           have XM1 := hidden (XM0.out.below hb1 (by omega))
           have XR1 := hidden (XR0.out.below hb1 (by omega))
           have z1 := hb1.size
           clear B0 XM0 XR0 hb1
           have S1 := hidden o0
           clear o0
           have C1 := hidden o1
           clear o1
           have D1 := hidden o3
           clear o3
           have ba : Below w1.heap.size w1 (w1.alloc (.cells #[.slice b0 n0 e0, .slice b1 n1 e1, .bool false, .slice b3 n3 e3] 109)) := (Below.refl _ _).alloc (Nat.le_refl _) _
           have yo := Box.new w1 109 #[.slice b0 n0 e0, .slice b1 n1 e1, .bool false, .slice b3 n3 e3]
           have zo := yo.lt
           have B2 := hidden (Below.andThen B1.out ba)
           have XM2 := hidden (XM1.out.below ba (by omega))
           have XR2 := hidden (XR1.out.below ba (by omega))
           have S2 := hidden (S1.out.below ba)
           have C2 := hidden (C1.out.below ba)
           have D2 := hidden (D1.out.below ba)
           have z2 := ba.size
           clear B1 XM1 XR1 S1 C1 D1 ba
           have XO2 := hidden yo
           clear yo
           have sW : w.heap.size + 1 < W.heap.size := zr
           obtain ⟨q0, q1, q2, q3⟩ := XM2.out.cells4
           go_wp2_with fail
           generalize w1.alloc (.cells #[.slice b0 n0 e0, .slice b1 n1 e1, .bool false, .slice b3 n3 e3] 109) = w2 at B2 XM2 XR2 S2 C2 D2 XO2 z2 zo q0 q1 q2 q3 ⊢
           refine (specMemOk_any _ E _ _ _ _ _ _ _ _ _ ss cs false bs (h0.below B2.out) (h1.below B2.out) (h3.below B2.out) hw).mono ?_
           rintro e w3 ⟨rfl, hb3⟩
           clear q0 q1 q2 q3
           have B3 := hidden (Below.andThen B2.out hb3)
           have XM3 := hidden (XM2.out.below hb3 (by omega))
           have XR3 := hidden (XR2.out.below hb3 (by omega))
           have S3 := hidden (S2.out.below hb3)
           have C3 := hidden (C2.out.below hb3)
           have D3 := hidden (D2.out.below hb3)
           have XO3 := hidden (XO2.out.below hb3 (by omega))
           have z3 := hb3.size
           clear B2 XM2 XR2 S2 C2 D2 XO2 hb3
           obtain ⟨q0, q1, q2, q3⟩ := XM3.out.cells4
           have gw : IntKind.i64.wrap ((n0 : Int) - 1) = (n0 : Int) - 1 := IntWalk.i64_in _ (by omega)
           go_wp2_with fail
           refine (l1In_any _ _ _ _).mono ?_
           rintro e w4 ⟨rfl, hw4⟩
           have hs4 : Same w3 w4 := by rw [hw4]; exact Same.refl _
           clear hw4 gw
           clear q0 q1 q2 q3
           have B4 := hidden (Below.andSame B3.out hs4)
           have XM4 := hidden (XM3.out.same hs4)
           have XR4 := hidden (XR3.out.same hs4)
           have S4 := hidden (S3.out.same hs4)
           have C4 := hidden (C3.out.same hs4)
           have D4 := hidden (D3.out.same hs4)
           have XO4 := hidden (XO3.out.same hs4)
           have z4 := Nat.le_of_eq hs4.size.symm
           clear B3 XM3 XR3 S3 C3 D3 XO3 hs4
           obtain ⟨q0, q1, q2, q3⟩ := XM4.out.cells4
           go_wp2_with fail
           refine (specSecOk_any _ _ _ _ sw hl5 (ints_rd (h5.below B4.out)).1 hw5).mono ?_
           rintro e w5 ⟨rfl, hs5⟩
           clear q0 q1 q2 q3
           have B5 := hidden (Below.andSame B4.out hs5)
           have XM5 := hidden (XM4.out.same hs5)
           have XR5 := hidden (XR4.out.same hs5)
           have S5 := hidden (S4.out.same hs5)
           have C5 := hidden (C4.out.same hs5)
           have D5 := hidden (D4.out.same hs5)
           have XO5 := hidden (XO4.out.same hs5)
           have z5 := Nat.le_of_eq hs5.size.symm
           clear B4 XM4 XR4 S4 C4 D4 XO4 hs5
           obtain ⟨q0, q1, q2, q3⟩ := XM5.out.cells4
           obtain ⟨x0, x1, x2, x3⟩ := XO5.out.cells4
           have hle : ¬ (60 : Int) <= (n1 : Int) := by omega
           have hlw3 : n3 <= 2097152 := by unfold wtMem at hw; simp only at hw; omega
           go_wp2_with fail
           clear q0 q1 q2 q3
           obtain ⟨i1, hi1, hy0, hy1, hy2⟩ := info_parts Tryz.infoWr
           obtain ⟨i3, hi3, hx0, hx1, hx2⟩ := info_parts Tryz.info3
           obtain ⟨fpC, mC, rC⟩ := C5.out.mine
           have MC := hidden mC
           have RC := hidden rC
           clear mC rC
           have HX5 := hidden (h5.below B5.out)
           have L1 : Hid (cs.length + 1 <= maxLen) := by unfold Hid maxLen; omega
           have L2 : Hid ((cs.length + 1) * 32 <= 140737488355328) := by unfold Hid; omega
           have hS : w5.drew.cell? ⟨w1.heap.size, 1, none⟩ = some (.slice b1 n1 e1) := XO5.out.cell 1
           clear x0 x1 x2 x3 hle
           have bA : Below w5.heap.size w5 (w5.alloc (.cells #[] 3)) := (Below.refl _ _).alloc (Nat.le_refl _) _
           have hS2 : (w5.alloc (.cells #[] 3)).drew.cell? ⟨w1.heap.size, 1, none⟩ = some (.slice b1 n1 e1) := (XO5.out.alloc (.cells #[] 3)).cell 1
           have HG : Hid ((w5.alloc (.cells #[] 3)).drew.heap[w5.heap.size]? = some (.cells #[] 3 (0, 0))) := Box.new w5 3 #[]
           have RD : Hid (tIntS.Rd (w5.alloc (.cells #[] 3)).drew [.slice a5 n5 c5] sw) := (HX5.out.below bA).drew
           have BA := hidden bA
           clear bA
           refine Upto.start (S := fun w' => w'.cell? ⟨w1.heap.size, 1, none⟩ = some (.slice b1 n1 e1)) (k := 10) (by kernel_rfl) ?_
           refine Upto.t 0 hS ?_
           refine Upto.t 1 hS ?_
           refine Upto.t 2 hS ?_
           refine Upto.t 4 hS ?_
           refine Upto.one (i := 3) (by kernel_rfl) rfl (fun K hK => ?_)
           go_simp
           refine hK.out _ _ (fun _ => hS2) ?_
           clear hK K
           refine Upto.one (i := 5) (by kernel_rfl) rfl (fun K hK => ?_)
           refine step_copy (by rfl) _ _ 30 (by rfl) i3 Tryz.underlying30 hi3 hx0 hx1 hx2 w5.heap.size (by rfl) HG.out a5 n5 c5 sw (by rfl) RD.out (by omega) ?_
           intro ac cc wc fpx mx rx tx
           have tx' : Turned [w5.heap.size] (w5.alloc (.cells #[] 3)) wc := Turned.undrew tx
           have zA : (w5.alloc (.cells #[] 3)).heap.size = w5.heap.size + 1 := by simp
           have zd : (w5.alloc (.cells #[] 3)).drew.heap.size = (w5.alloc (.cells #[] 3)).heap.size := rfl
           have hbc : Below w5.heap.size w5 wc := BA.out.trans (tx'.below (N := w5.heap.size) (by omega) (by simp))
           have RX : Hid (∀ b ∈ fpx, w5.heap.size <= b /\ b < wc.heap.size) := fun b hb => by have := rx b hb; omega
           have MX := hidden mx
           clear mx rx tx tx' zA zd
           have xoc : Box wc w1.heap.size 109 _ := XO5.out.below hbc (by omega)
           have hS3 : wc.cell? ⟨w1.heap.size, 1, none⟩ = some (.slice b1 n1 e1) := xoc.cell 1
           have hS4 : (wc.alloc (.cells #[.int .i64 n, .slice ac n5 cc] 159)).cell? ⟨w1.heap.size, 1, none⟩ = some (.slice b1 n1 e1) := (xoc.alloc (.cells #[.int .i64 n, .slice ac n5 cc] 159)).cell 1
           have XOC := hidden xoc
           have HBC := hidden hbc
           clear xoc hbc
           refine hK.out _ _ (fun _ => hS3) ?_
           clear hK K
           simp only [Act.put, List.setIfInBounds_toArray, List.set_cons_zero, List.set_cons_succ]
           refine Upto.t 6 hS3 ?_
           refine Upto.one (i := 7) (by kernel_rfl) rfl (fun K hK => ?_)
           go_simp
           refine hK.out _ _ (fun _ => hS4) ?_
           clear hK K
           refine Upto.one (i := 8) (by kernel_rfl) rfl (fun K hK => ?_)
           refine step_appT tWr (by rfl) _ _ 107 (by rfl) 159 i1 (.agg #[.int .i64 0, .slice none 0 0]) 32 Tryz.underlying107 hi1 hy0 hy1 hy2 rfl Nat.zero_lt_two (.slice b1 n1 e1) cs fpC (by rfl) ?_ ⟨wc.heap.size, 0, none⟩ 1 [.int .i64 n, .slice ac n5 cc] (n, sw) fpx (by rfl) ?_ ?_ ?_ ?_ L1.out L2.out ?_
           . exact (MC.out.below HBC.out).alloc _
           . exact (wr_mine n MX.out).alloc _
           . intro b hb hb'
             have h1 := RC.out b hb
             have h2 := RX.out b hb'
             omega
           . exact news_new _ _ _
           . intro u hu
             simp at hu
             rcases hu with hu | hu <;> (rw [hu]; rfl)
           intro g cap wA fpA m1' m2' m3'
           rw [hl1] at m1' ⊢
           have zB : (wc.alloc (.cells #[.int .i64 n, .slice ac n5 cc] 159)).heap.size = wc.heap.size + 1 := by simp
           have ya : Box wA w1.heap.size 109 _ := (XOC.out.alloc _).turned m3' (fun hm => by have := RC.out _ hm; omega)
           have hS5 : wA.cell? ⟨w1.heap.size, 1, none⟩ = some (.slice b1 n1 e1) := ya.cell 1
           have c9 := hS5
           have fz := ya.frozen 1
           have YA := hidden ya
           have M1 := hidden m1'
           have M2 := hidden m2'
           have M3 := hidden m3'
           have ZB := hidden zB
           clear ya m1' m2' m3' zB
           refine hK.out _ _ (fun _ => hS5) ?_
           clear hK K
           simp only [Act.put, List.setIfInBounds_toArray, List.set_cons_zero, List.set_cons_succ]
           refine Upto.t 9 hS5 ?_
           refine Upto.one (i := 10) (by kernel_rfl) rfl (fun K hK => ?_)
           go_simp
           refine hK.out _ _ (fun h => absurd rfl h) ?_
           clear hK K
           refine Upto.done (by kernel_rfl) ?_ _
           have zc := HBC.out.size
           have zA := M3.out.size
           have zB := ZB.out
           have hb6 : But m2 (w1.heap.size + 1) w5 (wA.setCell ⟨w1.heap.size, 1, none⟩ (.slice (some ⟨g, 0, none⟩) (n1 + 1) cap)) := ((But.of_below (Below.andThen HBC.out ((Below.refl _ _).alloc (Nat.le_refl _) _))).trans (M3.out.but (fun b hb => by have := RC.out b hb; omega))).trans (But.setCell (by omega) (by omega) _)
           have rA : ∀ b ∈ fpA, m2 <= b /\ b ≠ w1.heap.size /\ b < wA.heap.size := fun b hb => by
            have hlt := M1.out.lt b hb
            rcases M2.out b hb with h | h | h
            . have := RC.out b h
              omega
            . have := RX.out b h
              omega
            . have := h.1
              omega
           have mZ := M1.out.setCell (g := w1.heap.size) (j := 1) (fun hm => by have := rA _ hm; omega) (.slice (some ⟨g, 0, none⟩) (n1 + 1) cap)
           have yZ := YA.out.set 1 (.slice (some ⟨g, 0, none⟩) (n1 + 1) cap)
           have zs : wA.heap.size <= (wA.setCell ⟨w1.heap.size, 1, none⟩ (.slice (some ⟨g, 0, none⟩) (n1 + 1) cap)).heap.size := by simp
           have MZ := hidden mZ
           have RZ : Hid (∀ b ∈ fpA, m2 <= b /\ b ≠ w1.heap.size /\ b < (wA.setCell ⟨w1.heap.size, 1, none⟩ (.slice (some ⟨g, 0, none⟩) (n1 + 1) cap)).heap.size) := fun b hb => by have := rA b hb; omega
           have YZ := hidden yZ
           clear mZ rA yZ zs zA zB zc hS hS3 hS4 hS5 c9 fz YA M1 M2 M3 ZB XOC MX RX HBC MC RC HX5 L1 L2 hS2 HG RD BA
           clear XO5
           clear C5
           have B6 := hidden (Below.andBut B5.out hb6 (by omega))
           have XM6 := hidden (XM5.out.kept (hb6.block _ (by omega) (by omega)))
           have XR6 := hidden (XR5.out.kept (hb6.block _ (by omega) (by omega)))
           have S6 := hidden (S5.out.but hb6 (by omega))
           have D6 := hidden (D5.out.but hb6 (by omega))
           have z6 := hb6.size
           clear B5 XM5 XR5 S5 D5 hb6
           generalize (wA.setCell ⟨w1.heap.size, 1, none⟩ (.slice (some ⟨g, 0, none⟩) (n1 + 1) cap)) = w6 at B6 XM6 XR6 S6 D6 z6 MZ RZ YZ ⊢
           have XO6 : Hid (Box w6 w1.heap.size 109 #[.slice b0 n0 e0, .slice (some ⟨g, 0, none⟩) (n1 + 1) cap, .bool false, .slice b3 n3 e3]) := YZ.out
           clear YZ
           obtain ⟨q0, q1, q2, q3⟩ := XM6.out.cells4
           go_wp2_with fail
           refine (l2Without_any _ _ _ _ bs n (h3.below B6.out) (by omega)).mono ?_
           rintro e wb ⟨vd, rfl, od, hbB⟩
           obtain ⟨d3, f3, hvd⟩ := row_shape od.rd
           subst hvd
           have zb := hbB.size
           have xob : Box wb w1.heap.size 109 _ := XO6.out.below hbB (by omega)
           obtain ⟨x0, x1, x2, x3⟩ := xob.cells4
           have fz := xob.frozen 3
           have XOB := hidden xob
           have OD := hidden od
           have HBB := hidden hbB
           clear xob od hbB q0 q1 q2 q3
           have bs9 := But.setCell (lo := w1.heap.size) (hi := w1.heap.size + 1) (g := w1.heap.size) (j := 3) (w := wb) (Nat.le_refl _) (Nat.lt_succ_self _) (.slice d3 (filt bs n).length f3)
           have zt := bs9.size
           have MY := hidden ((MZ.out.below HBB.out).but bs9 (fun b hb => by have := RZ.out b hb; omega))
           have YZ := hidden (XOB.out.set 3 (.slice d3 (filt bs n).length f3))
           have D7 := hidden (OD.out.but bs9 (.inr (by omega)))
           have S7 := hidden ((S6.out.below HBB.out).but bs9 (.inl (by omega)))
           have XR7 := hidden ((XR6.out.below HBB.out (by omega)).kept (bs9.block _ (by omega) (by omega)))
           have B7 := hidden (Below.andBut (Below.andThen B6.out HBB.out) bs9 (by omega))
           have RY : Hid (∀ b ∈ fpA, m2 <= b /\ b < w6.heap.size) := fun b hb => by have := RZ.out b hb; omega
           have z7 : wb.heap.size <= (wb.setCell ⟨w1.heap.size, 3, none⟩ (.slice d3 (filt bs n).length f3)).heap.size := zt
           clear bs9 zt XOB OD HBB MZ RZ B6 XM6 XR6 S6 D6 XO6
           obtain ⟨t0, t1, t2, t3⟩ := Box.cells4 (v0 := .slice b0 n0 e0) (v1 := .slice (some ⟨g, 0, none⟩) (n1 + 1) cap) (v2 := .bool false) (v3 := .slice d3 (filt bs n).length f3) YZ.out
           obtain ⟨p0, p1, p2, p3⟩ := XR7.out.cells4
           have fr := XR7.out.frozen
           go_wp2
           generalize (wb.setCell ⟨w1.heap.size, 3, none⟩ (.slice d3 (filt bs n).length f3)) = w7 at B7 S7 D7 XR7 MY RY YZ z7 p0 p1 p2 p3 fr t0 t1 t2 t3 ⊢
           have hbt : But (w.heap.size + 1) (w.heap.size + 1 + 1) w7 ((((w7.setCell ⟨w.heap.size + 1, 0, none⟩ (.slice b0 n0 e0)).setCell ⟨w.heap.size + 1, 1, none⟩ (.slice (some ⟨g, 0, none⟩) (n1 + 1) cap)).setCell ⟨w.heap.size + 1, 2, none⟩ (.bool false)).setCell ⟨w.heap.size + 1, 3, none⟩ (.slice d3 (filt bs n).length f3)) :=
            (((But.setCell (by omega) (by omega) _).trans (But.setCell (by omega) (by omega) _)).trans (But.setCell (by omega) (by omega) _)).trans (But.setCell (by omega) (by omega) _)
           have z99 := hbt.size
           refine bodyPost_ret (v := .tuple #[.agg #[.slice b0 n0 e0, .slice (some ⟨g, 0, none⟩) (n1 + 1) cap, .bool false, .slice d3 (filt bs n).length f3], .bool true]) (by simp [results, Tryz.results188, go_sem, p0, p1, p2, p3]) rfl ?_
           have FIN : Hid ((tMem 159).Own ((((w7.setCell ⟨w.heap.size + 1, 0, none⟩ (.slice b0 n0 e0)).setCell ⟨w.heap.size + 1, 1, none⟩ (.slice (some ⟨g, 0, none⟩) (n1 + 1) cap)).setCell ⟨w.heap.size + 1, 2, none⟩ (.bool false)).setCell ⟨w.heap.size + 1, 3, none⟩ (.slice d3 (filt bs n).length f3)) w.heap.size ((((w7.setCell ⟨w.heap.size + 1, 0, none⟩ (.slice b0 n0 e0)).setCell ⟨w.heap.size + 1, 1, none⟩ (.slice (some ⟨g, 0, none⟩) (n1 + 1) cap)).setCell ⟨w.heap.size + 1, 2, none⟩ (.bool false)).setCell ⟨w.heap.size + 1, 3, none⟩ (.slice d3 (filt bs n).length f3)).heap.size [.slice b0 n0 e0, .slice (some ⟨g, 0, none⟩) (n1 + 1) cap, .bool false, .slice d3 (filt bs n).length f3] (ss, cs ++ [(n, sw)], false, filt bs n)) := mem_own3 (S7.out.but hbt (by omega)) ((MY.out.own (lo := m2) (hi := w6.heap.size) (fun b hb => RY.out b hb)).but hbt (by omega)) (D7.out.but hbt (by omega)) (by omega) (by omega) (by omega) (by omega) (by omega) (by omega)
           have FB := hidden (Below.andBut B7.out hbt (by omega))
           exact ⟨_, _, _, rfl, FIN.out, FB.out⟩
         . have hL' : (60 : Int) <= (n1 : Int) := by omega
           have hL2 : ¬ cs.length < 60 := by omega
           have hok : wrOk ss cs false bs n sw = false := by unfold wrOk; simp [hL2]
           have e1 : wrCS ss cs false bs n sw = cs := by unfold wrCS; rw [hok]; rfl
           have e2 : wrBS ss cs false bs n sw = bs := by unfold wrBS; rw [hok]; rfl
           rw [hok, e1, e2]
           clear hok e1 e2
           have hA : Below w.heap.size w ((w.alloc (.cells #[.slice a0 n0 c0, .slice a1 n1 c1, .bool false, .slice a3 n3 c3] 109)).alloc (.cells #[.slice none 0 0, .slice none 0 0, .bool false, .slice none 0 0] 109)) := ((Below.refl _ _).alloc (Nat.le_refl _) _).alloc (by simp) _
           have xm : Box ((w.alloc (.cells #[.slice a0 n0 c0, .slice a1 n1 c1, .bool false, .slice a3 n3 c3] 109)).alloc (.cells #[.slice none 0 0, .slice none 0 0, .bool false, .slice none 0 0] 109)) w.heap.size 109 #[.slice a0 n0 c0, .slice a1 n1 c1, .bool false, .slice a3 n3 c3] := (Box.new w _ _).alloc _
           have xr : Box ((w.alloc (.cells #[.slice a0 n0 c0, .slice a1 n1 c1, .bool false, .slice a3 n3 c3] 109)).alloc (.cells #[.slice none 0 0, .slice none 0 0, .bool false, .slice none 0 0] 109)) (w.heap.size + 1) 109 #[.slice none 0 0, .slice none 0 0, .bool false, .slice none 0 0] := by
            have := Box.new (w.alloc (.cells #[.slice a0 n0 c0, .slice a1 n1 c1, .bool false, .slice a3 n3 c3] 109)) 109 #[.slice none 0 0, .slice none 0 0, .bool false, .slice none 0 0]
            rw [show (w.alloc (.cells #[.slice a0 n0 c0, .slice a1 n1 c1, .bool false, .slice a3 n3 c3] 109)).heap.size = w.heap.size + 1 by simp] at this
            exact this
           go_enter Tryz.func188, Tryz.ntmps188
           go_wp2_with fail
           generalize hW : (w.alloc (.cells #[.slice a0 n0 c0, .slice a1 n1 c1, .bool false, .slice a3 n3 c3] 109)).alloc (.cells #[.slice none 0 0, .slice none 0 0, .bool false, .slice none 0 0] 109) = W at hA xm xr ⊢
           clear hW
           have zr := xr.lt
           have B0 := hidden hA
           clear hA
           have XM0 := hidden xm
           clear xm
           have XR0 := hidden xr
           clear xr
           obtain ⟨q0, q1, q2, q3⟩ := XM0.out.cells4
           clear q0 q1 q2 q3
           refine (l2Copy_any _ E _ _ _ _ _ _ _ _ _ ss cs false bs (h0.below B0.out) (h1.below B0.out) (h3.below B0.out) hw).mono ?_
           intro e w1 hc
           obtain ⟨b0, b1, b3, e0, e1, e3, m1, m2, rfl, o3, o0, o1, r1, r2, r3, hb1⟩ := copy_shapes hl0 hl1 hl3 hc
           clear hc
           have B1 := hidden (Below.andThen B0.out hb1)
           have XM1 := hidden (XM0.out.below hb1 (by omega))
           have XR1 := hidden (XR0.out.below hb1 (by omega))
           have z1 := hb1.size
           clear B0 XM0 XR0 hb1
           have S1 := hidden o0
           clear o0
           have C1 := hidden o1
           clear o1
           have D1 := hidden o3
           clear o3
           have ba : Below w1.heap.size w1 (w1.alloc (.cells #[.slice b0 n0 e0, .slice b1 n1 e1, .bool false, .slice b3 n3 e3] 109)) := (Below.refl _ _).alloc (Nat.le_refl _) _
           have yo := Box.new w1 109 #[.slice b0 n0 e0, .slice b1 n1 e1, .bool false, .slice b3 n3 e3]
           have zo := yo.lt
           have B2 := hidden (Below.andThen B1.out ba)
           have XM2 := hidden (XM1.out.below ba (by omega))
           have XR2 := hidden (XR1.out.below ba (by omega))
           have S2 := hidden (S1.out.below ba)
           have C2 := hidden (C1.out.below ba)
           have D2 := hidden (D1.out.below ba)
           have z2 := ba.size
           clear B1 XM1 XR1 S1 C1 D1 ba
           have XO2 := hidden yo
           clear yo
           have sW : w.heap.size + 1 < W.heap.size := zr
           obtain ⟨q0, q1, q2, q3⟩ := XM2.out.cells4
           go_wp2_with fail
           generalize w1.alloc (.cells #[.slice b0 n0 e0, .slice b1 n1 e1, .bool false, .slice b3 n3 e3] 109) = w2 at B2 XM2 XR2 S2 C2 D2 XO2 z2 zo q0 q1 q2 q3 ⊢
           refine (specMemOk_any _ E _ _ _ _ _ _ _ _ _ ss cs false bs (h0.below B2.out) (h1.below B2.out) (h3.below B2.out) hw).mono ?_
           rintro e w3 ⟨rfl, hb3⟩
           clear q0 q1 q2 q3
           have B3 := hidden (Below.andThen B2.out hb3)
           have XM3 := hidden (XM2.out.below hb3 (by omega))
           have XR3 := hidden (XR2.out.below hb3 (by omega))
           have S3 := hidden (S2.out.below hb3)
           have C3 := hidden (C2.out.below hb3)
           have D3 := hidden (D2.out.below hb3)
           have XO3 := hidden (XO2.out.below hb3 (by omega))
           have z3 := hb3.size
           clear B2 XM2 XR2 S2 C2 D2 XO2 hb3
           obtain ⟨q0, q1, q2, q3⟩ := XM3.out.cells4
           have gw : IntKind.i64.wrap ((n0 : Int) - 1) = (n0 : Int) - 1 := IntWalk.i64_in _ (by omega)
           go_wp2_with fail
           refine (l1In_any _ _ _ _).mono ?_
           rintro e w4 ⟨rfl, hw4⟩
           have hs4 : Same w3 w4 := by rw [hw4]; exact Same.refl _
           clear hw4 gw
           clear q0 q1 q2 q3
           have B4 := hidden (Below.andSame B3.out hs4)
           have XM4 := hidden (XM3.out.same hs4)
           have XR4 := hidden (XR3.out.same hs4)
           have S4 := hidden (S3.out.same hs4)
           have C4 := hidden (C3.out.same hs4)
           have D4 := hidden (D3.out.same hs4)
           have XO4 := hidden (XO3.out.same hs4)
           have z4 := Nat.le_of_eq hs4.size.symm
           clear B3 XM3 XR3 S3 C3 D3 XO3 hs4
           obtain ⟨q0, q1, q2, q3⟩ := XM4.out.cells4
           go_wp2_with fail
           refine (specSecOk_any _ _ _ _ sw hl5 (ints_rd (h5.below B4.out)).1 hw5).mono ?_
           rintro e w5 ⟨rfl, hs5⟩
           clear q0 q1 q2 q3
           have B5 := hidden (Below.andSame B4.out hs5)
           have XM5 := hidden (XM4.out.same hs5)
           have XR5 := hidden (XR4.out.same hs5)
           have S5 := hidden (S4.out.same hs5)
           have C5 := hidden (C4.out.same hs5)
           have D5 := hidden (D4.out.same hs5)
           have XO5 := hidden (XO4.out.same hs5)
           have z5 := Nat.le_of_eq hs5.size.symm
           clear B4 XM4 XR4 S4 C4 D4 XO4 hs5
           obtain ⟨q0, q1, q2, q3⟩ := XM5.out.cells4
           obtain ⟨x0, x1, x2, x3⟩ := XO5.out.cells4
           obtain ⟨p0, p1, p2, p3⟩ := XR5.out.cells4
           have fz := XR5.out.frozen
           have hbt : But (w.heap.size + 1) (w.heap.size + 1 + 1) w5 ((((w5.setCell ⟨w.heap.size + 1, 0, none⟩ (.slice b0 n0 e0)).setCell ⟨w.heap.size + 1, 1, none⟩ (.slice b1 n1 e1)).setCell ⟨w.heap.size + 1, 2, none⟩ (.bool false)).setCell ⟨w.heap.size + 1, 3, none⟩ (.slice b3 n3 e3)) :=
            (((But.setCell (by omega) (by omega) _).trans (But.setCell (by omega) (by omega) _)).trans (But.setCell (by omega) (by omega) _)).trans (But.setCell (by omega) (by omega) _)
           have z99 := hbt.size
           have FIN : Hid ((tMem 159).Own ((((w5.setCell ⟨w.heap.size + 1, 0, none⟩ (.slice b0 n0 e0)).setCell ⟨w.heap.size + 1, 1, none⟩ (.slice b1 n1 e1)).setCell ⟨w.heap.size + 1, 2, none⟩ (.bool false)).setCell ⟨w.heap.size + 1, 3, none⟩ (.slice b3 n3 e3)) w.heap.size ((((w5.setCell ⟨w.heap.size + 1, 0, none⟩ (.slice b0 n0 e0)).setCell ⟨w.heap.size + 1, 1, none⟩ (.slice b1 n1 e1)).setCell ⟨w.heap.size + 1, 2, none⟩ (.bool false)).setCell ⟨w.heap.size + 1, 3, none⟩ (.slice b3 n3 e3)).heap.size [.slice b0 n0 e0, .slice b1 n1 e1, .bool false, .slice b3 n3 e3] (ss, cs, false, bs)) := mem_own3 (S5.out.but hbt (by omega)) (C5.out.but hbt (by omega)) (D5.out.but hbt (by omega)) (by omega) (by omega) (by omega) (by omega) (by omega) (by omega)
           have FB := hidden (Below.andBut B5.out hbt (by omega))
           clear hbt
           go_wp2
           refine bodyPost_ret (v := .tuple #[.agg #[.slice b0 n0 e0, .slice b1 n1 e1, .bool false, .slice b3 n3 e3], .bool false]) (by simp [results, Tryz.results188, go_sem, p0, p1, p2, p3]) rfl ?_
           exact ⟨_, _, _, rfl, FIN.out, FB.out⟩
       . have hS : secB sw = false := by simpa using hS
         have hok : wrOk ss cs false bs n sw = false := by unfold wrOk; simp [hS]
         have e1 : wrCS ss cs false bs n sw = cs := by unfold wrCS; rw [hok]; rfl
         have e2 : wrBS ss cs false bs n sw = bs := by unfold wrBS; rw [hok]; rfl
         rw [hok, e1, e2]
         clear hok e1 e2
         have hA : Below w.heap.size w ((w.alloc (.cells #[.slice a0 n0 c0, .slice a1 n1 c1, .bool false, .slice a3 n3 c3] 109)).alloc (.cells #[.slice none 0 0, .slice none 0 0, .bool false, .slice none 0 0] 109)) := ((Below.refl _ _).alloc (Nat.le_refl _) _).alloc (by simp) _
         have xm : Box ((w.alloc (.cells #[.slice a0 n0 c0, .slice a1 n1 c1, .bool false, .slice a3 n3 c3] 109)).alloc (.cells #[.slice none 0 0, .slice none 0 0, .bool false, .slice none 0 0] 109)) w.heap.size 109 #[.slice a0 n0 c0, .slice a1 n1 c1, .bool false, .slice a3 n3 c3] := (Box.new w _ _).alloc _
         have xr : Box ((w.alloc (.cells #[.slice a0 n0 c0, .slice a1 n1 c1, .bool false, .slice a3 n3 c3] 109)).alloc (.cells #[.slice none 0 0, .slice none 0 0, .bool false, .slice none 0 0] 109)) (w.heap.size + 1) 109 #[.slice none 0 0, .slice none 0 0, .bool false, .slice none 0 0] := by
          have := Box.new (w.alloc (.cells #[.slice a0 n0 c0, .slice a1 n1 c1, .bool false, .slice a3 n3 c3] 109)) 109 #[.slice none 0 0, .slice none 0 0, .bool false, .slice none 0 0]
          rw [show (w.alloc (.cells #[.slice a0 n0 c0, .slice a1 n1 c1, .bool false, .slice a3 n3 c3] 109)).heap.size = w.heap.size + 1 by simp] at this
          exact this
         go_enter Tryz.func188, Tryz.ntmps188
         go_wp2_with fail
         generalize hW : (w.alloc (.cells #[.slice a0 n0 c0, .slice a1 n1 c1, .bool false, .slice a3 n3 c3] 109)).alloc (.cells #[.slice none 0 0, .slice none 0 0, .bool false, .slice none 0 0] 109) = W at hA xm xr ⊢
         clear hW
         have zr := xr.lt
         have B0 := hidden hA
         clear hA
         have XM0 := hidden xm
         clear xm
         have XR0 := hidden xr
         clear xr
         obtain ⟨q0, q1, q2, q3⟩ := XM0.out.cells4
         clear q0 q1 q2 q3
         refine (l2Copy_any _ E _ _ _ _ _ _ _ _ _ ss cs false bs (h0.below B0.out) (h1.below B0.out) (h3.below B0.out) hw).mono ?_
         intro e w1 hc
         obtain ⟨b0, b1, b3, e0, e1, e3, m1, m2, rfl, o3, o0, o1, r1, r2, r3, hb1⟩ := copy_shapes hl0 hl1 hl3 hc
         clear hc
         have B1 := hidden (Below.andThen B0.out hb1)
         have XM1 := hidden (XM0.out.below hb1 (by omega))
         have XR1 := hidden (XR0.out.below hb1 (by omega))
         have z1 := hb1.size
         clear B0 XM0 XR0 hb1
         have S1 := hidden o0
         clear o0
         have C1 := hidden o1
         clear o1
         have D1 := hidden o3
         clear o3
         have ba : Below w1.heap.size w1 (w1.alloc (.cells #[.slice b0 n0 e0, .slice b1 n1 e1, .bool false, .slice b3 n3 e3] 109)) := (Below.refl _ _).alloc (Nat.le_refl _) _
         have yo := Box.new w1 109 #[.slice b0 n0 e0, .slice b1 n1 e1, .bool false, .slice b3 n3 e3]
         have zo := yo.lt
         have B2 := hidden (Below.andThen B1.out ba)
         have XM2 := hidden (XM1.out.below ba (by omega))
         have XR2 := hidden (XR1.out.below ba (by omega))
         have S2 := hidden (S1.out.below ba)
         have C2 := hidden (C1.out.below ba)
         have D2 := hidden (D1.out.below ba)
         have z2 := ba.size
         clear B1 XM1 XR1 S1 C1 D1 ba
         have XO2 := hidden yo
         clear yo
         have sW : w.heap.size + 1 < W.heap.size := zr
         obtain ⟨q0, q1, q2, q3⟩ := XM2.out.cells4
         go_wp2_with fail
         generalize w1.alloc (.cells #[.slice b0 n0 e0, .slice b1 n1 e1, .bool false, .slice b3 n3 e3] 109) = w2 at B2 XM2 XR2 S2 C2 D2 XO2 z2 zo q0 q1 q2 q3 ⊢
         refine (specMemOk_any _ E _ _ _ _ _ _ _ _ _ ss cs false bs (h0.below B2.out) (h1.below B2.out) (h3.below B2.out) hw).mono ?_
         rintro e w3 ⟨rfl, hb3⟩
         clear q0 q1 q2 q3
         have B3 := hidden (Below.andThen B2.out hb3)
         have XM3 := hidden (XM2.out.below hb3 (by omega))
         have XR3 := hidden (XR2.out.below hb3 (by omega))
         have S3 := hidden (S2.out.below hb3)
         have C3 := hidden (C2.out.below hb3)
         have D3 := hidden (D2.out.below hb3)
         have XO3 := hidden (XO2.out.below hb3 (by omega))
         have z3 := hb3.size
         clear B2 XM2 XR2 S2 C2 D2 XO2 hb3
         obtain ⟨q0, q1, q2, q3⟩ := XM3.out.cells4
         have gw : IntKind.i64.wrap ((n0 : Int) - 1) = (n0 : Int) - 1 := IntWalk.i64_in _ (by omega)
         go_wp2_with fail
         refine (l1In_any _ _ _ _).mono ?_
         rintro e w4 ⟨rfl, hw4⟩
         have hs4 : Same w3 w4 := by rw [hw4]; exact Same.refl _
         clear hw4 gw
         clear q0 q1 q2 q3
         have B4 := hidden (Below.andSame B3.out hs4)
         have XM4 := hidden (XM3.out.same hs4)
         have XR4 := hidden (XR3.out.same hs4)
         have S4 := hidden (S3.out.same hs4)
         have C4 := hidden (C3.out.same hs4)
         have D4 := hidden (D3.out.same hs4)
         have XO4 := hidden (XO3.out.same hs4)
         have z4 := Nat.le_of_eq hs4.size.symm
         clear B3 XM3 XR3 S3 C3 D3 XO3 hs4
         obtain ⟨q0, q1, q2, q3⟩ := XM4.out.cells4
         go_wp2_with fail
         refine (specSecOk_any _ _ _ _ sw hl5 (ints_rd (h5.below B4.out)).1 hw5).mono ?_
         rintro e w5 ⟨rfl, hs5⟩
         clear q0 q1 q2 q3
         have B5 := hidden (Below.andSame B4.out hs5)
         have XM5 := hidden (XM4.out.same hs5)
         have XR5 := hidden (XR4.out.same hs5)
         have S5 := hidden (S4.out.same hs5)
         have C5 := hidden (C4.out.same hs5)
         have D5 := hidden (D4.out.same hs5)
         have XO5 := hidden (XO4.out.same hs5)
         have z5 := Nat.le_of_eq hs5.size.symm
         clear B4 XM4 XR4 S4 C4 D4 XO4 hs5
         obtain ⟨q0, q1, q2, q3⟩ := XM5.out.cells4
         obtain ⟨x0, x1, x2, x3⟩ := XO5.out.cells4
         obtain ⟨p0, p1, p2, p3⟩ := XR5.out.cells4
         have fz := XR5.out.frozen
         have hbt : But (w.heap.size + 1) (w.heap.size + 1 + 1) w5 ((((w5.setCell ⟨w.heap.size + 1, 0, none⟩ (.slice b0 n0 e0)).setCell ⟨w.heap.size + 1, 1, none⟩ (.slice b1 n1 e1)).setCell ⟨w.heap.size + 1, 2, none⟩ (.bool false)).setCell ⟨w.heap.size + 1, 3, none⟩ (.slice b3 n3 e3)) :=
          (((But.setCell (by omega) (by omega) _).trans (But.setCell (by omega) (by omega) _)).trans (But.setCell (by omega) (by omega) _)).trans (But.setCell (by omega) (by omega) _)
         have z99 := hbt.size
         have FIN : Hid ((tMem 159).Own ((((w5.setCell ⟨w.heap.size + 1, 0, none⟩ (.slice b0 n0 e0)).setCell ⟨w.heap.size + 1, 1, none⟩ (.slice b1 n1 e1)).setCell ⟨w.heap.size + 1, 2, none⟩ (.bool false)).setCell ⟨w.heap.size + 1, 3, none⟩ (.slice b3 n3 e3)) w.heap.size ((((w5.setCell ⟨w.heap.size + 1, 0, none⟩ (.slice b0 n0 e0)).setCell ⟨w.heap.size + 1, 1, none⟩ (.slice b1 n1 e1)).setCell ⟨w.heap.size + 1, 2, none⟩ (.bool false)).setCell ⟨w.heap.size + 1, 3, none⟩ (.slice b3 n3 e3)).heap.size [.slice b0 n0 e0, .slice b1 n1 e1, .bool false, .slice b3 n3 e3] (ss, cs, false, bs)) := mem_own3 (S5.out.but hbt (by omega)) (C5.out.but hbt (by omega)) (D5.out.but hbt (by omega)) (by omega) (by omega) (by omega) (by omega) (by omega) (by omega)
         have FB := hidden (Below.andBut B5.out hbt (by omega))
         clear hbt
         go_wp2
         refine bodyPost_ret (v := .tuple #[.agg #[.slice b0 n0 e0, .slice b1 n1 e1, .bool false, .slice b3 n3 e3], .bool false]) (by simp [results, Tryz.results188, go_sem, p0, p1, p2, p3]) rfl ?_
         exact ⟨_, _, _, rfl, FIN.out, FB.out⟩
     . have hI : inB n 0 ((n0 : Int) - 1) = false := by simpa using hI
       have hI2 : inB n 0 ((ss.length : Int) - 1) = false := by rw [hl0]; exact hI
       have hok : wrOk ss cs false bs n sw = false := by unfold wrOk; simp [hI2]
       have e1 : wrCS ss cs false bs n sw = cs := by unfold wrCS; rw [hok]; rfl
       have e2 : wrBS ss cs false bs n sw = bs := by unfold wrBS; rw [hok]; rfl
       rw [hok, e1, e2]
       clear hok e1 e2
       have hA : Below w.heap.size w ((w.alloc (.cells #[.slice a0 n0 c0, .slice a1 n1 c1, .bool false, .slice a3 n3 c3] 109)).alloc (.cells #[.slice none 0 0, .slice none 0 0, .bool false, .slice none 0 0] 109)) := ((Below.refl _ _).alloc (Nat.le_refl _) _).alloc (by simp) _
       have xm : Box ((w.alloc (.cells #[.slice a0 n0 c0, .slice a1 n1 c1, .bool false, .slice a3 n3 c3] 109)).alloc (.cells #[.slice none 0 0, .slice none 0 0, .bool false, .slice none 0 0] 109)) w.heap.size 109 #[.slice a0 n0 c0, .slice a1 n1 c1, .bool false, .slice a3 n3 c3] := (Box.new w _ _).alloc _
       have xr : Box ((w.alloc (.cells #[.slice a0 n0 c0, .slice a1 n1 c1, .bool false, .slice a3 n3 c3] 109)).alloc (.cells #[.slice none 0 0, .slice none 0 0, .bool false, .slice none 0 0] 109)) (w.heap.size + 1) 109 #[.slice none 0 0, .slice none 0 0, .bool false, .slice none 0 0] := by
        have := Box.new (w.alloc (.cells #[.slice a0 n0 c0, .slice a1 n1 c1, .bool false, .slice a3 n3 c3] 109)) 109 #[.slice none 0 0, .slice none 0 0, .bool false, .slice none 0 0]
        rw [show (w.alloc (.cells #[.slice a0 n0 c0, .slice a1 n1 c1, .bool false, .slice a3 n3 c3] 109)).heap.size = w.heap.size + 1 by simp] at this
        exact this
       go_enter Tryz.func188, Tryz.ntmps188
       go_wp2_with fail
       generalize hW : (w.alloc (.cells #[.slice a0 n0 c0, .slice a1 n1 c1, .bool false, .slice a3 n3 c3] 109)).alloc (.cells #[.slice none 0 0, .slice none 0 0, .bool false, .slice none 0 0] 109) = W at hA xm xr ⊢
       clear hW
       have zr := xr.lt
       have B0 := hidden hA
       clear hA
       have XM0 := hidden xm
       clear xm
       have XR0 := hidden xr
       clear xr
       obtain ⟨q0, q1, q2, q3⟩ := XM0.out.cells4
       clear q0 q1 q2 q3
       refine (l2Copy_any _ E _ _ _ _ _ _ _ _ _ ss cs false bs (h0.below B0.out) (h1.below B0.out) (h3.below B0.out) hw).mono ?_
       intro e w1 hc
       obtain ⟨b0, b1, b3, e0, e1, e3, m1, m2, rfl, o3, o0, o1, r1, r2, r3, hb1⟩ := copy_shapes hl0 hl1 hl3 hc
       clear hc
       have B1 := hidden (Below.andThen B0.out hb1)
       have XM1 := hidden (XM0.out.below hb1 (by omega))
       have XR1 := hidden (XR0.out.below hb1 (by omega))
       have z1 := hb1.size
       clear B0 XM0 XR0 hb1
       have S1 := hidden o0
       clear o0
       have C1 := hidden o1
       clear o1
       have D1 := hidden o3
       clear o3
       have ba : Below w1.heap.size w1 (w1.alloc (.cells #[.slice b0 n0 e0, .slice b1 n1 e1, .bool false, .slice b3 n3 e3] 109)) := (Below.refl _ _).alloc (Nat.le_refl _) _
       have yo := Box.new w1 109 #[.slice b0 n0 e0, .slice b1 n1 e1, .bool false, .slice b3 n3 e3]
       have zo := yo.lt
       have B2 := hidden (Below.andThen B1.out ba)
       have XM2 := hidden (XM1.out.below ba (by omega))
       have XR2 := hidden (XR1.out.below ba (by omega))
       have S2 := hidden (S1.out.below ba)
       have C2 := hidden (C1.out.below ba)
       have D2 := hidden (D1.out.below ba)
       have z2 := ba.size
       clear B1 XM1 XR1 S1 C1 D1 ba
       have XO2 := hidden yo
       clear yo
       have sW : w.heap.size + 1 < W.heap.size := zr
       obtain ⟨q0, q1, q2, q3⟩ := XM2.out.cells4
       go_wp2_with fail
       generalize w1.alloc (.cells #[.slice b0 n0 e0, .slice b1 n1 e1, .bool false, .slice b3 n3 e3] 109) = w2 at B2 XM2 XR2 S2 C2 D2 XO2 z2 zo q0 q1 q2 q3 ⊢
       refine (specMemOk_any _ E _ _ _ _ _ _ _ _ _ ss cs false bs (h0.below B2.out) (h1.below B2.out) (h3.below B2.out) hw).mono ?_
       rintro e w3 ⟨rfl, hb3⟩
       clear q0 q1 q2 q3
       have B3 := hidden (Below.andThen B2.out hb3)
       have XM3 := hidden (XM2.out.below hb3 (by omega))
       have XR3 := hidden (XR2.out.below hb3 (by omega))
       have S3 := hidden (S2.out.below hb3)
       have C3 := hidden (C2.out.below hb3)
       have D3 := hidden (D2.out.below hb3)
       have XO3 := hidden (XO2.out.below hb3 (by omega))
       have z3 := hb3.size
       clear B2 XM2 XR2 S2 C2 D2 XO2 hb3
       obtain ⟨q0, q1, q2, q3⟩ := XM3.out.cells4
       have gw : IntKind.i64.wrap ((n0 : Int) - 1) = (n0 : Int) - 1 := IntWalk.i64_in _ (by omega)
       go_wp2_with fail
       refine (l1In_any _ _ _ _).mono ?_
       rintro e w4 ⟨rfl, hw4⟩
       have hs4 : Same w3 w4 := by rw [hw4]; exact Same.refl _
       clear hw4 gw
       clear q0 q1 q2 q3
       have B4 := hidden (Below.andSame B3.out hs4)
       have XM4 := hidden (XM3.out.same hs4)
       have XR4 := hidden (XR3.out.same hs4)
       have S4 := hidden (S3.out.same hs4)
       have C4 := hidden (C3.out.same hs4)
       have D4 := hidden (D3.out.same hs4)
       have XO4 := hidden (XO3.out.same hs4)
       have z4 := Nat.le_of_eq hs4.size.symm
       clear B3 XM3 XR3 S3 C3 D3 XO3 hs4
       obtain ⟨q0, q1, q2, q3⟩ := XM4.out.cells4
       obtain ⟨x0, x1, x2, x3⟩ := XO4.out.cells4
       obtain ⟨p0, p1, p2, p3⟩ := XR4.out.cells4
       have fz := XR4.out.frozen
       have hbt : But (w.heap.size + 1) (w.heap.size + 1 + 1) w4 ((((w4.setCell ⟨w.heap.size + 1, 0, none⟩ (.slice b0 n0 e0)).setCell ⟨w.heap.size + 1, 1, none⟩ (.slice b1 n1 e1)).setCell ⟨w.heap.size + 1, 2, none⟩ (.bool false)).setCell ⟨w.heap.size + 1, 3, none⟩ (.slice b3 n3 e3)) :=
        (((But.setCell (by omega) (by omega) _).trans (But.setCell (by omega) (by omega) _)).trans (But.setCell (by omega) (by omega) _)).trans (But.setCell (by omega) (by omega) _)
       have z99 := hbt.size
       have FIN : Hid ((tMem 159).Own ((((w4.setCell ⟨w.heap.size + 1, 0, none⟩ (.slice b0 n0 e0)).setCell ⟨w.heap.size + 1, 1, none⟩ (.slice b1 n1 e1)).setCell ⟨w.heap.size + 1, 2, none⟩ (.bool false)).setCell ⟨w.heap.size + 1, 3, none⟩ (.slice b3 n3 e3)) w.heap.size ((((w4.setCell ⟨w.heap.size + 1, 0, none⟩ (.slice b0 n0 e0)).setCell ⟨w.heap.size + 1, 1, none⟩ (.slice b1 n1 e1)).setCell ⟨w.heap.size + 1, 2, none⟩ (.bool false)).setCell ⟨w.heap.size + 1, 3, none⟩ (.slice b3 n3 e3)).heap.size [.slice b0 n0 e0, .slice b1 n1 e1, .bool false, .slice b3 n3 e3] (ss, cs, false, bs)) := mem_own3 (S4.out.but hbt (by omega)) (C4.out.but hbt (by omega)) (D4.out.but hbt (by omega)) (by omega) (by omega) (by omega) (by omega) (by omega) (by omega)
       have FB := hidden (Below.andBut B4.out hbt (by omega))
       clear hbt
       go_wp2
       refine bodyPost_ret (v := .tuple #[.agg #[.slice b0 n0 e0, .slice b1 n1 e1, .bool false, .slice b3 n3 e3], .bool false]) (by simp [results, Tryz.results188, go_sem, p0, p1, p2, p3]) rfl ?_
       exact ⟨_, _, _, rfl, FIN.out, FB.out⟩
 . have hM : memB ss cs bs = false := by simpa using hM
   have hok : wrOk ss cs f bs n sw = false := by unfold wrOk; simp [hM]
   have e1 : wrCS ss cs f bs n sw = cs := by unfold wrCS; rw [hok]; rfl
   have e2 : wrBS ss cs f bs n sw = bs := by unfold wrBS; rw [hok]; rfl
   rw [hok, e1, e2]
   clear hok e1 e2
   have hA : Below w.heap.size w ((w.alloc (.cells #[.slice a0 n0 c0, .slice a1 n1 c1, .bool f, .slice a3 n3 c3] 109)).alloc (.cells #[.slice none 0 0, .slice none 0 0, .bool false, .slice none 0 0] 109)) := ((Below.refl _ _).alloc (Nat.le_refl _) _).alloc (by simp) _
   have xm : Box ((w.alloc (.cells #[.slice a0 n0 c0, .slice a1 n1 c1, .bool f, .slice a3 n3 c3] 109)).alloc (.cells #[.slice none 0 0, .slice none 0 0, .bool false, .slice none 0 0] 109)) w.heap.size 109 #[.slice a0 n0 c0, .slice a1 n1 c1, .bool f, .slice a3 n3 c3] := (Box.new w _ _).alloc _
   have xr : Box ((w.alloc (.cells #[.slice a0 n0 c0, .slice a1 n1 c1, .bool f, .slice a3 n3 c3] 109)).alloc (.cells #[.slice none 0 0, .slice none 0 0, .bool false, .slice none 0 0] 109)) (w.heap.size + 1) 109 #[.slice none 0 0, .slice none 0 0, .bool false, .slice none 0 0] := by
    have := Box.new (w.alloc (.cells #[.slice a0 n0 c0, .slice a1 n1 c1, .bool f, .slice a3 n3 c3] 109)) 109 #[.slice none 0 0, .slice none 0 0, .bool false, .slice none 0 0]
    rw [show (w.alloc (.cells #[.slice a0 n0 c0, .slice a1 n1 c1, .bool f, .slice a3 n3 c3] 109)).heap.size = w.heap.size + 1 by simp] at this
    exact this
   go_enter Tryz.func188, Tryz.ntmps188
   go_wp2_with fail
   generalize hW : (w.alloc (.cells #[.slice a0 n0 c0, .slice a1 n1 c1, .bool f, .slice a3 n3 c3] 109)).alloc (.cells #[.slice none 0 0, .slice none 0 0, .bool false, .slice none 0 0] 109) = W at hA xm xr ⊢
   clear hW
   have zr := xr.lt
   have B0 := hidden hA
   clear hA
   have XM0 := hidden xm
   clear xm
   have XR0 := hidden xr
   clear xr
   obtain ⟨q0, q1, q2, q3⟩ := XM0.out.cells4
   clear q0 q1 q2 q3
   refine (l2Copy_any _ E _ _ _ _ _ _ _ _ _ ss cs f bs (h0.below B0.out) (h1.below B0.out) (h3.below B0.out) hw).mono ?_
   intro e w1 hc
   obtain ⟨b0, b1, b3, e0, e1, e3, m1, m2, rfl, o3, o0, o1, r1, r2, r3, hb1⟩ := copy_shapes hl0 hl1 hl3 hc
   clear hc
   have B1 := hidden (Below.andThen B0.out hb1)
   have XM1 := hidden (XM0.out.below hb1 (by omega))
   have XR1 := hidden (XR0.out.below hb1 (by omega))
   have z1 := hb1.size
   clear B0 XM0 XR0 hb1
   have S1 := hidden o0
   clear o0
   have C1 := hidden o1
   clear o1
   have D1 := hidden o3
   clear o3
   have ba : Below w1.heap.size w1 (w1.alloc (.cells #[.slice b0 n0 e0, .slice b1 n1 e1, .bool f, .slice b3 n3 e3] 109)) := (Below.refl _ _).alloc (Nat.le_refl _) _
   have yo := Box.new w1 109 #[.slice b0 n0 e0, .slice b1 n1 e1, .bool f, .slice b3 n3 e3]
   have zo := yo.lt
   have B2 := hidden (Below.andThen B1.out ba)
   have XM2 := hidden (XM1.out.below ba (by omega))
   have XR2 := hidden (XR1.out.below ba (by omega))
   have S2 := hidden (S1.out.below ba)
   have C2 := hidden (C1.out.below ba)
   have D2 := hidden (D1.out.below ba)
   have z2 := ba.size
   clear B1 XM1 XR1 S1 C1 D1 ba
   have XO2 := hidden yo
   clear yo
   have sW : w.heap.size + 1 < W.heap.size := zr
   obtain ⟨q0, q1, q2, q3⟩ := XM2.out.cells4
   go_wp2_with fail
   generalize w1.alloc (.cells #[.slice b0 n0 e0, .slice b1 n1 e1, .bool f, .slice b3 n3 e3] 109) = w2 at B2 XM2 XR2 S2 C2 D2 XO2 z2 zo q0 q1 q2 q3 ⊢
   refine (specMemOk_any _ E _ _ _ _ _ _ _ _ _ ss cs f bs (h0.below B2.out) (h1.below B2.out) (h3.below B2.out) hw).mono ?_
   rintro e w3 ⟨rfl, hb3⟩
   clear q0 q1 q2 q3
   have B3 := hidden (Below.andThen B2.out hb3)
   have XM3 := hidden (XM2.out.below hb3 (by omega))
   have XR3 := hidden (XR2.out.below hb3 (by omega))
   have S3 := hidden (S2.out.below hb3)
   have C3 := hidden (C2.out.below hb3)
   have D3 := hidden (D2.out.below hb3)
   have XO3 := hidden (XO2.out.below hb3 (by omega))
   have z3 := hb3.size
   clear B2 XM2 XR2 S2 C2 D2 XO2 hb3
   obtain ⟨q0, q1, q2, q3⟩ := XM3.out.cells4
   obtain ⟨x0, x1, x2, x3⟩ := XO3.out.cells4
   obtain ⟨p0, p1, p2, p3⟩ := XR3.out.cells4
   have fz := XR3.out.frozen
   have hbt : But (w.heap.size + 1) (w.heap.size + 1 + 1) w3 ((((w3.setCell ⟨w.heap.size + 1, 0, none⟩ (.slice b0 n0 e0)).setCell ⟨w.heap.size + 1, 1, none⟩ (.slice b1 n1 e1)).setCell ⟨w.heap.size + 1, 2, none⟩ (.bool f)).setCell ⟨w.heap.size + 1, 3, none⟩ (.slice b3 n3 e3)) :=
    (((But.setCell (by omega) (by omega) _).trans (But.setCell (by omega) (by omega) _)).trans (But.setCell (by omega) (by omega) _)).trans (But.setCell (by omega) (by omega) _)
   have z99 := hbt.size
   have FIN : Hid ((tMem 159).Own ((((w3.setCell ⟨w.heap.size + 1, 0, none⟩ (.slice b0 n0 e0)).setCell ⟨w.heap.size + 1, 1, none⟩ (.slice b1 n1 e1)).setCell ⟨w.heap.size + 1, 2, none⟩ (.bool f)).setCell ⟨w.heap.size + 1, 3, none⟩ (.slice b3 n3 e3)) w.heap.size ((((w3.setCell ⟨w.heap.size + 1, 0, none⟩ (.slice b0 n0 e0)).setCell ⟨w.heap.size + 1, 1, none⟩ (.slice b1 n1 e1)).setCell ⟨w.heap.size + 1, 2, none⟩ (.bool f)).setCell ⟨w.heap.size + 1, 3, none⟩ (.slice b3 n3 e3)).heap.size [.slice b0 n0 e0, .slice b1 n1 e1, .bool f, .slice b3 n3 e3] (ss, cs, f, bs)) := mem_own3 (S3.out.but hbt (by omega)) (C3.out.but hbt (by omega)) (D3.out.but hbt (by omega)) (by omega) (by omega) (by omega) (by omega) (by omega) (by omega)
   have FB := hidden (Below.andBut B3.out hbt (by omega))
   clear hbt
   go_wp2
   refine bodyPost_ret (v := .tuple #[.agg #[.slice b0 n0 e0, .slice b1 n1 e1, .bool f, .slice b3 n3 e3], .bool false]) (by simp [results, Tryz.results188, go_sem, p0, p1, p2, p3]) rfl ?_
   exact ⟨_, _, _, rfl, FIN.out, FB.out⟩

end Go.Proofs.YtianjijbmiebgaaGreat
