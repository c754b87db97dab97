/-
 The walk of the program's arrOfSuper. Condition: the disks weigh at most 2097152.
-/
import Derived.Test.YtlcjfgmmjkandaaHeld
import Derived.Test.YtlcjfgmmjkandaaFrame
import Derived.Test.YtlcjfgmmjkandaaWalkCopyWords
import Derived.Test.YtlcjfgmmjkandaaOrder
import Derived.Test.YtlcjfgmmjkandaaRowAssembleAll4
import Derived.Test.YtlcjfgmmjkandaaMemB
import Derived.Test.YtlcjfgmmjkandaaStore
import Derived.WideLaws
import Derived.Test.YtlcjfgmmjkandaaWalkImplMemOk
import Derived.Lib.SliceRun
import Derived.Test.YtlcjfgmmjkandaaSupPlace
import Derived.Test.YtlcjfgmmjkandaaWalkL2Has
import Derived.Test.YtlcjfgmmjkandaaData
import Derived.Test.YtlcjfgmmjkandaaWalkSecOk
import Derived.Test.YtlcjfgmmjkandaaBox
import Derived.Test.YtlcjfgmmjkandaaArr7
import Derived.Test.YtlcjfgmmjkandaaWalkArrOk
import Derived.Test.YtlcjfgmmjkandaaWalkMarkIn
import Derived.Test.YtlcjfgmmjkandaaWalkArr
import Derived.Deep.Cut

set_option maxRecDepth 100000
set_option maxHeartbeats 8000000
set_option linter.unusedSimpArgs false

namespace Go.Proofs.Ytlcjfgmmjkandaa
open Go.RowKit

theorem l2Copy_any (w : World) (E : TypeId) (a0 a1 a3 : Option Addr) (n0 c0 n1 c1 n3 c3 : Nat) (ss : List (List Int)) (cs : List (Int × List Int)) (f : Bool) (bs : List Int) (h0 : tIntSS.Rd w [.slice a0 n0 c0] ss) (h1 : (tWrS E).Rd w [.slice a1 n1 c1] cs) (h3 : tIntS.Rd w [.slice a3 n3 c3] bs) (hw : wtMem (ss, cs, f, bs) <= 2097152) :
 Calls Try.prog 54 #[.agg #[.slice a0 n0 c0, .slice a1 n1 c1, .bool f, .slice a3 n3 c3]] w fun e w' => ∃ v0 v1 v3 m1 m2, e = .returned (.agg #[v0, v1, .bool f, v3]) /\ tIntS.Own w' w.heap.size m1 [v3] bs /\ tIntSS.Own w' m1 m2 [v0] ss /\ (tWrS 108).Own w' m2 w'.heap.size [v1] cs /\ m1 <= m2 /\ w.heap.size <= m1 /\ m2 <= w'.heap.size /\ Below w.heap.size w w' := by
 obtain ⟨hl0, _, hm0⟩ := row_length h0
 obtain ⟨hl1, _, hm1⟩ := row_length h1
 obtain ⟨hl3, _, hm3⟩ := row_length h3
 have hw0 : wtIntSS ss <= 2097152 := by unfold wtMem at hw; simp only at hw; omega
 have hw1 : wtWrS cs <= 2097152 := by unfold wtMem at hw; simp only at hw; omega
 have hw3 : n3 <= 2097152 := by unfold wtMem at hw; simp only at hw; omega
 have hn0 : n0 <= 2097152 := by unfold wtIntSS at hw0; omega
 have hn1 : n1 <= 2097152 := by unfold wtWrS at hw1; omega
 obtain ⟨i0, hi, hz0, hz1, hz2⟩ := info_parts Try.infoIntS
 obtain ⟨i3, hi3, hx0, hx1, hx2⟩ := info_parts Try.info3
 obtain ⟨i1, hi1, hy0, hy1, hy2⟩ := info_parts Try.infoWr
 have hA : Below w.heap.size w ((w.alloc (.cells #[.slice a0 n0 c0, .slice a1 n1 c1, .bool f, .slice a3 n3 c3] 73)).alloc (.cells #[.slice none 0 0, .slice none 0 0, .bool false, .slice none 0 0] 73)) := ((Below.refl _ _).alloc (Nat.le_refl _) _).alloc (by simp) _
 have xm : Box ((w.alloc (.cells #[.slice a0 n0 c0, .slice a1 n1 c1, .bool f, .slice a3 n3 c3] 73)).alloc (.cells #[.slice none 0 0, .slice none 0 0, .bool false, .slice none 0 0] 73)) w.heap.size 73 #[.slice a0 n0 c0, .slice a1 n1 c1, .bool f, .slice a3 n3 c3] := (Box.new w _ _).alloc _
 have xr : Box ((w.alloc (.cells #[.slice a0 n0 c0, .slice a1 n1 c1, .bool f, .slice a3 n3 c3] 73)).alloc (.cells #[.slice none 0 0, .slice none 0 0, .bool false, .slice none 0 0] 73)) (w.heap.size + 1) 73 #[.slice none 0 0, .slice none 0 0, .bool false, .slice none 0 0] := by
  have := Box.new (w.alloc (.cells #[.slice a0 n0 c0, .slice a1 n1 c1, .bool f, .slice a3 n3 c3] 73)) 73 #[.slice none 0 0, .slice none 0 0, .bool false, .slice none 0 0]
  rw [show (w.alloc (.cells #[.slice a0 n0 c0, .slice a1 n1 c1, .bool f, .slice a3 n3 c3] 73)).heap.size = w.heap.size + 1 by simp] at this
  exact this
 have hsz : ((w.alloc (.cells #[.slice a0 n0 c0, .slice a1 n1 c1, .bool f, .slice a3 n3 c3] 73)).alloc (.cells #[.slice none 0 0, .slice none 0 0, .bool false, .slice none 0 0] 73)).heap.size = w.heap.size + 1 + 1 := by simp
 have HSZ := hidden hsz
 clear hsz
 go_enter Try.func54, Try.ntmps54
 go_wp2_with fail
 generalize hW : (w.alloc (.cells #[.slice a0 n0 c0, .slice a1 n1 c1, .bool f, .slice a3 n3 c3] 73)).alloc (.cells #[.slice none 0 0, .slice none 0 0, .bool false, .slice none 0 0] 73) = W at hA xm xr HSZ ⊢
 clear hW
 obtain ⟨q0, q1, q2, q3⟩ := xm.cells4
 have zW : w.heap.size < W.heap.size := xm.lt
 have g3 := h3.below hA
 refine' with_key (G := _) (A := fun BO g w6 a5 c5 fp3 => Box w6 w.heap.size 73 #[.slice a0 n0 c0, .slice a1 n1 c1, .bool f, .slice a3 n3 c3] /\ Box w6 (w.heap.size + 1) 73 #[.slice none 0 0, .slice none 0 0, .bool false, .slice none 0 0] /\ Box w6 BO 73 #[.slice none 0 0, .slice none 0 0, .bool f, .slice a5 n3 c5] /\ tIntS.Mine w6 [.slice a5 n3 c5] bs fp3 /\ Below w.heap.size w w6 /\ (w.heap.size + 2 <= BO /\ BO < w6.heap.size /\ ∀ b ∈ fp3, w.heap.size + 2 <= b /\ b < w6.heap.size /\ b ≠ BO)) ?main (fun key => ?use)
 case use =>
  have sW : w.heap.size + 2 <= W.heap.size := by have := HSZ.out; omega
  have hgA : Box (W.alloc (.cells #[] 3)) W.heap.size 3 #[] := Box.new W 3 #[]
  have hgB : Box ((W.alloc (.cells #[] 3)).alloc (.cells #[.slice none 0 0, .slice none 0 0, .bool false, .slice none 0 0] 73)) W.heap.size 3 #[] := hgA.alloc _
  have hgC : Box ((W.alloc (.cells #[.slice none 0 0, .slice none 0 0, .bool false, .slice none 0 0] 73)).alloc (.cells #[] 3)) (W.heap.size + 1) 3 #[] := by
   have := Box.new (W.alloc (.cells #[.slice none 0 0, .slice none 0 0, .bool false, .slice none 0 0] 73)) 3 #[]
   rw [show (W.alloc (.cells #[.slice none 0 0, .slice none 0 0, .bool false, .slice none 0 0] 73)).heap.size = W.heap.size + 1 by simp] at this
   exact this
  have xoB : Box ((W.alloc (.cells #[] 3)).alloc (.cells #[.slice none 0 0, .slice none 0 0, .bool false, .slice none 0 0] 73)) (W.heap.size + 1) 73 #[.slice none 0 0, .slice none 0 0, .bool false, .slice none 0 0] := by
   have := Box.new (W.alloc (.cells #[] 3)) 73 #[.slice none 0 0, .slice none 0 0, .bool false, .slice none 0 0]
   rw [show (W.alloc (.cells #[] 3)).heap.size = W.heap.size + 1 by simp] at this
   exact this
  have xoC : Box ((W.alloc (.cells #[.slice none 0 0, .slice none 0 0, .bool false, .slice none 0 0] 73)).alloc (.cells #[] 3)) W.heap.size 73 #[.slice none 0 0, .slice none 0 0, .bool false, .slice none 0 0] := (Box.new W _ _).alloc _
  have zA : (W.alloc (.cells #[] 3)).heap.size = W.heap.size + 1 := by simp
  have zB : ((W.alloc (.cells #[] 3)).alloc (.cells #[.slice none 0 0, .slice none 0 0, .bool false, .slice none 0 0] 73)).heap.size = W.heap.size + 2 := by simp
  have zC : ((W.alloc (.cells #[.slice none 0 0, .slice none 0 0, .bool false, .slice none 0 0] 73)).alloc (.cells #[] 3)).heap.size = W.heap.size + 2 := by simp
  have ZA := hidden zA
  have ZB := hidden zB
  have ZC := hidden zC
  have HGA : Hid ((W.alloc (.cells #[] 3)).drew.heap[W.heap.size]? = some (.cells #[] 3 (0, 0))) := hgA
  have RDA : Hid (tIntS.Rd (W.alloc (.cells #[] 3)).drew [.slice a3 n3 c3] bs) := (g3.below ((Below.refl _ _).alloc (Nat.le_refl _) _)).drew
  have HGB : Hid (((W.alloc (.cells #[] 3)).alloc (.cells #[.slice none 0 0, .slice none 0 0, .bool false, .slice none 0 0] 73)).drew.heap[W.heap.size]? = some (.cells #[] 3 (0, 0))) := hgB
  have RDB : Hid (tIntS.Rd ((W.alloc (.cells #[] 3)).alloc (.cells #[.slice none 0 0, .slice none 0 0, .bool false, .slice none 0 0] 73)).drew [.slice a3 n3 c3] bs) := (g3.below (((Below.refl _ _).alloc (Nat.le_refl _) _).alloc (by simp) _)).drew
  have HGC : Hid (((W.alloc (.cells #[.slice none 0 0, .slice none 0 0, .bool false, .slice none 0 0] 73)).alloc (.cells #[] 3)).drew.heap[W.heap.size + 1]? = some (.cells #[] 3 (0, 0))) := hgC
  have RDC : Hid (tIntS.Rd ((W.alloc (.cells #[.slice none 0 0, .slice none 0 0, .bool false, .slice none 0 0] 73)).alloc (.cells #[] 3)).drew [.slice a3 n3 c3] bs) := (g3.below (((Below.refl _ _).alloc (Nat.le_refl _) _).alloc (by simp) _)).drew
  have XOB := hidden xoB
  have XOC := hidden xoC
  have XM := hidden xm
  have XR := hidden xr
  have G3 := hidden g3
  clear zA zB zC hgA hgB hgC xoB xoC
  have hS : ∀ w', Box w' w.heap.size 73 #[.slice a0 n0 c0, .slice a1 n1 c1, .bool f, .slice a3 n3 c3] -> w'.cell? ⟨w.heap.size, 2, none⟩ = some (.bool f) /\ w'.cell? ⟨w.heap.size, 3, none⟩ = some (.slice a3 n3 c3) := fun w' hb => ⟨hb.cell 2, hb.cell 3⟩
  have nB : Hid (w.heap.size ≠ W.heap.size + 1) := by unfold Hid; omega
  have nC : Hid (w.heap.size ≠ W.heap.size) := by unfold Hid; omega
  have hD : ∀ w', Box w' w.heap.size 73 #[.slice a0 n0 c0, .slice a1 n1 c1, .bool f, .slice a3 n3 c3] -> w'.drew.cell? ⟨w.heap.size, 2, none⟩ = some (.bool f) /\ w'.drew.cell? ⟨w.heap.size, 3, none⟩ = some (.slice a3 n3 c3) := hS
  go_region_held3 (fun w' => w'.cell? ⟨w.heap.size, 2, none⟩ = some (.bool f) /\ w'.cell? ⟨w.heap.size, 3, none⟩ = some (.slice a3 n3 c3))
   (first | (with_reducible exact hS w5 XM5.out) | (with_reducible exact hS _ (XM5.out.alloc _)) | (with_reducible exact hS _ ((((XM5.out.other nB.out 0 _).other nB.out 1 _).other nB.out 2 _).other nB.out 3 _)) | (with_reducible exact hS _ ((((XM5.out.other nC.out 0 _).other nC.out 1 _).other nC.out 2 _).other nC.out 3 _)) | (with_reducible exact hD _ XM.out) | (with_reducible exact hD _ (XM.out.alloc _)) | (with_reducible exact hD _ ((XM.out.alloc _).alloc _)) | go_keep)
   (first
    | (refine step_copy (by rfl) _ _ 39 (by rfl) i3 Try.underlying39 hi3 hx0 hx1 hx2 W.heap.size (by rfl) (by with_reducible exact HGA.out) a3 n3 c3 bs (by rfl) (by with_reducible exact RDA.out) (by omega) ?_; intro a5 c5 w5 fp3 m3 r3 t3; have t3' : Turned [W.heap.size] (W.alloc (.cells #[] 3)) w5 := Turned.undrew t3; have XM5 := hidden ((XM.out.alloc (.cells #[] 3)).turned t3' (by simp; omega)); have XR5 := hidden ((XR.out.alloc (.cells #[] 3)).turned t3' (by simp; omega)); have T3 := hidden t3'; have M3 := hidden m3; have R3 := hidden r3; clear t3 t3' m3 r3)
    | (refine step_copy (by rfl) _ _ 39 (by rfl) i3 Try.underlying39 hi3 hx0 hx1 hx2 W.heap.size (by rfl) (by with_reducible exact HGB.out) a3 n3 c3 bs (by rfl) (by with_reducible exact RDB.out) (by omega) ?_; intro a5 c5 w5 fp3 m3 r3 t3; have t3' : Turned [W.heap.size] ((W.alloc (.cells #[] 3)).alloc (.cells #[.slice none 0 0, .slice none 0 0, .bool false, .slice none 0 0] 73)) w5 := Turned.undrew t3; have XM5 := hidden (((XM.out.alloc (.cells #[] 3)).alloc (.cells #[.slice none 0 0, .slice none 0 0, .bool false, .slice none 0 0] 73)).turned t3' (by simp; omega)); have XR5 := hidden (((XR.out.alloc (.cells #[] 3)).alloc (.cells #[.slice none 0 0, .slice none 0 0, .bool false, .slice none 0 0] 73)).turned t3' (by simp; omega)); have xo5 := XOB.out.turned t3' (by simp); obtain ⟨s0, s1, s2, s3⟩ := xo5.cells4; have u0 := xo5.frozen 0; have u1 := xo5.frozen 1; have u2 := xo5.frozen 2; have u3 := xo5.frozen 3; have XO5 := hidden xo5; have T3 := hidden t3'; have M3 := hidden m3; have R3 := hidden r3; clear t3 t3' m3 r3 xo5)
    | (refine step_copy (by rfl) _ _ 39 (by rfl) i3 Try.underlying39 hi3 hx0 hx1 hx2 (W.heap.size + 1) (by rfl) (by with_reducible exact HGC.out) a3 n3 c3 bs (by rfl) (by with_reducible exact RDC.out) (by omega) ?_; intro a5 c5 w5 fp3 m3 r3 t3; have t3' : Turned [W.heap.size + 1] ((W.alloc (.cells #[.slice none 0 0, .slice none 0 0, .bool false, .slice none 0 0] 73)).alloc (.cells #[] 3)) w5 := Turned.undrew t3; have XM5 := hidden (((XM.out.alloc (.cells #[.slice none 0 0, .slice none 0 0, .bool false, .slice none 0 0] 73)).alloc (.cells #[] 3)).turned t3' (by simp; omega)); have XR5 := hidden (((XR.out.alloc (.cells #[.slice none 0 0, .slice none 0 0, .bool false, .slice none 0 0] 73)).alloc (.cells #[] 3)).turned t3' (by simp; omega)); have xo5 := XOC.out.turned t3' (by simp); obtain ⟨s0, s1, s2, s3⟩ := xo5.cells4; have u0 := xo5.frozen 0; have u1 := xo5.frozen 1; have u2 := xo5.frozen 2; have u3 := xo5.frozen 3; have XO5 := hidden xo5; have T3 := hidden t3'; have M3 := hidden m3; have R3 := hidden r3; clear t3 t3' m3 r3 xo5))
  . have hT := T3.out
    have zA := ZA.out
    have zT := hT.size
    have z6 : (w5.alloc (.cells #[.slice none 0 0, .slice none 0 0, .bool f, .slice a5 n3 c5] 73)).heap.size = w5.heap.size + 1 := by simp
    have FM := XM5.out.alloc (.cells #[.slice none 0 0, .slice none 0 0, .bool f, .slice a5 n3 c5] 73)
    have FR := XR5.out.alloc (.cells #[.slice none 0 0, .slice none 0 0, .bool f, .slice a5 n3 c5] 73)
    have FO := Box.new w5 73 #[.slice none 0 0, .slice none 0 0, .bool f, .slice a5 n3 c5]
    have F3 := M3.out.alloc (.cells #[.slice none 0 0, .slice none 0 0, .bool f, .slice a5 n3 c5] 73)
    have FB : Below w.heap.size w (w5.alloc (.cells #[.slice none 0 0, .slice none 0 0, .bool f, .slice a5 n3 c5] 73)) := (((hA.alloc (by omega) (.cells #[] 3)).trans (hT.below (N := w.heap.size) (by omega) (by simp; omega))).alloc (by omega) (.cells #[.slice none 0 0, .slice none 0 0, .bool f, .slice a5 n3 c5] 73))
    have FS : w.heap.size + 2 <= w5.heap.size /\ w5.heap.size < (w5.alloc (.cells #[.slice none 0 0, .slice none 0 0, .bool f, .slice a5 n3 c5] 73)).heap.size /\ ∀ b ∈ fp3, w.heap.size + 2 <= b /\ b < (w5.alloc (.cells #[.slice none 0 0, .slice none 0 0, .bool f, .slice a5 n3 c5] 73)).heap.size /\ b ≠ w5.heap.size := ⟨by omega, by omega, fun b hb => by
     obtain ⟨h1, h2⟩ := R3.out b hb
     have h3 : (W.alloc (.cells #[] 3)).drew.heap.size = (W.alloc (.cells #[] 3)).heap.size := rfl
     omega⟩
    have ALL := hidden (And.intro FM (And.intro FR (And.intro FO (And.intro F3 (And.intro FB FS)))))
    clear FM FR FO F3 FB FS hT zA zT z6
    generalize w5.alloc (.cells #[.slice none 0 0, .slice none 0 0, .bool f, .slice a5 n3 c5] 73) = w6 at ALL ⊢
    generalize w5.heap.size = BO at ALL ⊢
    generalize W.heap.size = g
    exact key.out BO g w6 a5 c5 fp3 ALL.out
  . have hT := T3.out
    have zA := ZB.out
    have zT := hT.size
    have hbt : But (W.heap.size + 1) (W.heap.size + 1 + 1) w5 ((((w5.setCell ⟨W.heap.size + 1, 0, none⟩ (.slice none 0 0)).setCell ⟨W.heap.size + 1, 1, none⟩ (.slice none 0 0)).setCell ⟨W.heap.size + 1, 2, none⟩ (.bool f)).setCell ⟨W.heap.size + 1, 3, none⟩ (.slice a5 n3 c5)) :=
     (((But.setCell (by omega) (by omega) _).trans (But.setCell (by omega) (by omega) _)).trans (But.setCell (by omega) (by omega) _)).trans (But.setCell (by omega) (by omega) _)
    have z6 := hbt.size
    have rr : ∀ b ∈ fp3, w.heap.size + 2 <= b /\ b < w5.heap.size /\ b ≠ W.heap.size + 1 := fun b hb => by
     obtain ⟨h1, h2⟩ := R3.out b hb
     have h3 : ((W.alloc (.cells #[] 3)).alloc (.cells #[.slice none 0 0, .slice none 0 0, .bool false, .slice none 0 0] 73)).drew.heap.size = ((W.alloc (.cells #[] 3)).alloc (.cells #[.slice none 0 0, .slice none 0 0, .bool false, .slice none 0 0] 73)).heap.size := rfl
     omega
    have FM := XM5.out.kept (hbt.block _ (by omega) (by omega))
    have FR := XR5.out.kept (hbt.block _ (by omega) (by omega))
    have FO := (((XO5.out.set 0 (.slice none 0 0)).set 1 (.slice none 0 0)).set 2 (.bool f)).set 3 (.slice a5 n3 c5)
    have F3 := M3.out.but hbt (fun b hb => by have := rr b hb; omega)
    have FB : Below w.heap.size w ((((w5.setCell ⟨W.heap.size + 1, 0, none⟩ (.slice none 0 0)).setCell ⟨W.heap.size + 1, 1, none⟩ (.slice none 0 0)).setCell ⟨W.heap.size + 1, 2, none⟩ (.bool f)).setCell ⟨W.heap.size + 1, 3, none⟩ (.slice a5 n3 c5)) := ((hA.alloc (by omega) (.cells #[] 3)).alloc (by simp; omega) (.cells #[.slice none 0 0, .slice none 0 0, .bool false, .slice none 0 0] 73)).trans ((hT.below (N := w.heap.size) (by omega) (by simp; omega)).trans (hbt.below (by omega) (by omega)))
    have FS : w.heap.size + 2 <= W.heap.size + 1 /\ W.heap.size + 1 < ((((w5.setCell ⟨W.heap.size + 1, 0, none⟩ (.slice none 0 0)).setCell ⟨W.heap.size + 1, 1, none⟩ (.slice none 0 0)).setCell ⟨W.heap.size + 1, 2, none⟩ (.bool f)).setCell ⟨W.heap.size + 1, 3, none⟩ (.slice a5 n3 c5)).heap.size /\ ∀ b ∈ fp3, w.heap.size + 2 <= b /\ b < ((((w5.setCell ⟨W.heap.size + 1, 0, none⟩ (.slice none 0 0)).setCell ⟨W.heap.size + 1, 1, none⟩ (.slice none 0 0)).setCell ⟨W.heap.size + 1, 2, none⟩ (.bool f)).setCell ⟨W.heap.size + 1, 3, none⟩ (.slice a5 n3 c5)).heap.size /\ b ≠ W.heap.size + 1 := ⟨by omega, by omega, fun b hb => by have := rr b hb; omega⟩
    have ALL := hidden (And.intro FM (And.intro FR (And.intro FO (And.intro F3 (And.intro FB FS)))))
    clear FM FR FO F3 FB FS hT zA zT z6 rr hbt
    generalize ((((w5.setCell ⟨W.heap.size + 1, 0, none⟩ (.slice none 0 0)).setCell ⟨W.heap.size + 1, 1, none⟩ (.slice none 0 0)).setCell ⟨W.heap.size + 1, 2, none⟩ (.bool f)).setCell ⟨W.heap.size + 1, 3, none⟩ (.slice a5 n3 c5)) = w6 at ALL ⊢
    generalize W.heap.size + 1 = BO at ALL ⊢
    generalize W.heap.size = g
    exact key.out BO g w6 a5 c5 fp3 ALL.out
  . have hT := T3.out
    have zA := ZC.out
    have zT := hT.size
    have hbt : But (W.heap.size) (W.heap.size + 1) w5 ((((w5.setCell ⟨W.heap.size, 0, none⟩ (.slice none 0 0)).setCell ⟨W.heap.size, 1, none⟩ (.slice none 0 0)).setCell ⟨W.heap.size, 2, none⟩ (.bool f)).setCell ⟨W.heap.size, 3, none⟩ (.slice a5 n3 c5)) :=
     (((But.setCell (by omega) (by omega) _).trans (But.setCell (by omega) (by omega) _)).trans (But.setCell (by omega) (by omega) _)).trans (But.setCell (by omega) (by omega) _)
    have z6 := hbt.size
    have rr : ∀ b ∈ fp3, w.heap.size + 2 <= b /\ b < w5.heap.size /\ b ≠ W.heap.size := fun b hb => by
     obtain ⟨h1, h2⟩ := R3.out b hb
     have h3 : ((W.alloc (.cells #[.slice none 0 0, .slice none 0 0, .bool false, .slice none 0 0] 73)).alloc (.cells #[] 3)).drew.heap.size = ((W.alloc (.cells #[.slice none 0 0, .slice none 0 0, .bool false, .slice none 0 0] 73)).alloc (.cells #[] 3)).heap.size := rfl
     omega
    have FM := XM5.out.kept (hbt.block _ (by omega) (by omega))
    have FR := XR5.out.kept (hbt.block _ (by omega) (by omega))
    have FO := (((XO5.out.set 0 (.slice none 0 0)).set 1 (.slice none 0 0)).set 2 (.bool f)).set 3 (.slice a5 n3 c5)
    have F3 := M3.out.but hbt (fun b hb => by have := rr b hb; omega)
    have FB : Below w.heap.size w ((((w5.setCell ⟨W.heap.size, 0, none⟩ (.slice none 0 0)).setCell ⟨W.heap.size, 1, none⟩ (.slice none 0 0)).setCell ⟨W.heap.size, 2, none⟩ (.bool f)).setCell ⟨W.heap.size, 3, none⟩ (.slice a5 n3 c5)) := ((hA.alloc (by omega) (.cells #[.slice none 0 0, .slice none 0 0, .bool false, .slice none 0 0] 73)).alloc (by simp; omega) (.cells #[] 3)).trans ((hT.below (N := w.heap.size) (by omega) (by simp; omega)).trans (hbt.below (by omega) (by omega)))
    have FS : w.heap.size + 2 <= W.heap.size /\ W.heap.size < ((((w5.setCell ⟨W.heap.size, 0, none⟩ (.slice none 0 0)).setCell ⟨W.heap.size, 1, none⟩ (.slice none 0 0)).setCell ⟨W.heap.size, 2, none⟩ (.bool f)).setCell ⟨W.heap.size, 3, none⟩ (.slice a5 n3 c5)).heap.size /\ ∀ b ∈ fp3, w.heap.size + 2 <= b /\ b < ((((w5.setCell ⟨W.heap.size, 0, none⟩ (.slice none 0 0)).setCell ⟨W.heap.size, 1, none⟩ (.slice none 0 0)).setCell ⟨W.heap.size, 2, none⟩ (.bool f)).setCell ⟨W.heap.size, 3, none⟩ (.slice a5 n3 c5)).heap.size /\ b ≠ W.heap.size := ⟨by omega, by omega, fun b hb => by have := rr b hb; omega⟩
    have ALL := hidden (And.intro FM (And.intro FR (And.intro FO (And.intro F3 (And.intro FB FS)))))
    clear FM FR FO F3 FB FS hT zA zT z6 rr hbt
    generalize ((((w5.setCell ⟨W.heap.size, 0, none⟩ (.slice none 0 0)).setCell ⟨W.heap.size, 1, none⟩ (.slice none 0 0)).setCell ⟨W.heap.size, 2, none⟩ (.bool f)).setCell ⟨W.heap.size, 3, none⟩ (.slice a5 n3 c5)) = w6 at ALL ⊢
    generalize W.heap.size + 1 = g
    generalize W.heap.size = BO at ALL ⊢
    exact key.out BO g w6 a5 c5 fp3 ALL.out
 case main =>
  rintro BO g w6 a5 c5 fp3 ⟨fm, fr0, fo, f3, fb, fs⟩
  have FM := hidden fm
  have FR := hidden fr0
  have FO := hidden fo
  have F3 := hidden f3
  have FB := hidden fb
  have FS := hidden fs
  clear fm fr0 fo f3 fb fs
  clear xm xr q0 q1 q2 q3 HSZ zW g3 hA
  obtain ⟨p0, p1, p2, p3⟩ := FM.out.cells4
  obtain ⟨fs1, fs2, fs3⟩ := FS.out
  go_wp2
  go_loopw [4] (fun i wr => ∃ (j : Nat) (v0 : Value) (fp0 : List Nat), j <= n0 /\ i = .int .i64 j /\ Fr w6.heap.size BO w6 wr /\ Box wr BO 73 #[v0, .slice none 0 0, .bool f, .slice a5 n3 c5] /\ tIntSS.Mine wr [v0] (ss.take j) fp0 /\ (∀ b ∈ fp0, w6.heap.size <= b)) (fun i _ => n0 - (intOf i).toNat)
  case atStart => exact ⟨0, _, [], Nat.zero_le _, rfl, Fr.refl _ _ _, FO.out, nil_mine _, by simp⟩
  case round =>
   obtain ⟨j, v0, fp0, hj, rfl, fr, xo, hm, hfp⟩ := hrel
   have hs := fr.size
   have xm := fr.box FM.out (by omega) (by omega)
   have hb := FB.out.trans (fr.below (M := w.heap.size) (by omega) (by omega))
   obtain ⟨q0, q1, q2, q3⟩ := xm.cells4
   by_cases hjn : j < n0
   . rcases rows_at rfl h0 with h0' | ⟨b, off, rfl, hbl, hcs⟩
     . omega
     have hdj : ss[j]? = some (ss[j]'(by omega)) := List.getElem?_eq_getElem (by omega)
     have htk : ss.take (j + 1) = ss.take j ++ [ss[j]'(by omega)] := List.take_succ_eq_append_getElem (by omega)
     generalize ss[j]'(by omega) = x at hdj htk
     have hil := inner_le hdj
     obtain ⟨v, hv, hrv⟩ := hcs j x hdj
     obtain ⟨av, cv, rfl⟩ := row_shape hrv
     have pv := (hb.cell (p := ⟨b, off + j, none⟩) hbl).trans hv
     have HX := hidden (hrv.below hb)
     have k1 : (0 : Int) <= (j : Int) := by omega
     have k2 : (j : Int) < (n0 : Int) := by omega
     have HTK := hidden htk
     have XO := hidden xo
     have XMR := hidden xm
     have FRR := hidden fr
     have HM := hidden hm
     have HFP := hidden hfp
     have HL : Hid ((ss.take j).length = j) := by unfold Hid; rw [List.length_take]; omega
     have L1 : Hid ((ss.take j).length + 1 <= maxLen) := by unfold Hid; rw [HL.out]; unfold maxLen; omega
     have L2 : Hid (((ss.take j).length + 1) * 24 <= 140737488355328) := by unfold Hid; rw [HL.out]; omega
     have mk : Hid (∀ w', Box w' BO 73 #[v0, .slice none 0 0, .bool f, .slice a5 n3 c5] -> Box w' w.heap.size 73 #[.slice (some ⟨b, off, none⟩) n0 c0, .slice a1 n1 c1, .bool f, .slice a3 n3 c3] -> w'.heap[b]? = wr.heap[b]? -> w'.cell? ⟨BO, 0, none⟩ = some (v0) /\ w'.cell? ⟨w.heap.size, 0, none⟩ = some (.slice (some ⟨b, off, none⟩) n0 c0) /\ w'.cell? ⟨b, off + j, none⟩ = some (.slice av x.length cv)) := fun w' e1 e2 e3 => ⟨e1.cell 0, e2.cell 0, (World.cell?_of_block e3).trans pv⟩
     have bA : Below wr.heap.size wr (wr.alloc (.cells #[] 3)) := (Below.refl _ _).alloc (Nat.le_refl _) _
     have hS : wr.drew.cell? ⟨BO, 0, none⟩ = some (v0) /\ wr.drew.cell? ⟨w.heap.size, 0, none⟩ = some (.slice (some ⟨b, off, none⟩) n0 c0) /\ wr.drew.cell? ⟨b, off + j, none⟩ = some (.slice av x.length cv) := mk.out wr.drew xo xm rfl
     have hS2 : (wr.alloc (.cells #[] 3)).drew.cell? ⟨BO, 0, none⟩ = some (v0) /\ (wr.alloc (.cells #[] 3)).drew.cell? ⟨w.heap.size, 0, none⟩ = some (.slice (some ⟨b, off, none⟩) n0 c0) /\ (wr.alloc (.cells #[] 3)).drew.cell? ⟨b, off + j, none⟩ = some (.slice av x.length cv) := mk.out (wr.alloc (.cells #[] 3)).drew (xo.alloc _) (xm.alloc _) (bA.block b (by omega))
     have HG : Hid ((wr.alloc (.cells #[] 3)).drew.heap[wr.heap.size]? = some (.cells #[] 3 (0, 0))) := Box.new wr 3 #[]
     have RD : Hid (tIntS.Rd (wr.alloc (.cells #[] 3)).drew [.slice av x.length cv] x) := (HX.out.below bA).drew
     have BA := hidden bA
     clear hcs hdj hv hrv htk xo xm hm hfp hb fr pv bA
     go_wp2_with fail
     refine Upto.start (S := fun w' => w'.cell? ⟨BO, 0, none⟩ = some (v0) /\ w'.cell? ⟨w.heap.size, 0, none⟩ = some (.slice (some ⟨b, off, none⟩) n0 c0) /\ w'.cell? ⟨b, off + j, none⟩ = some (.slice av x.length cv)) (k := 12) (by kernel_rfl) ?_
     refine Upto.t 0 hS ?_
     refine Upto.t 1 hS ?_
     refine Upto.t 3 hS ?_
     refine Upto.t 4 hS ?_
     refine Upto.t 5 hS ?_
     refine Upto.t 6 hS ?_
     refine Upto.t 7 hS ?_
     refine Upto.one (i := 2) (by kernel_rfl) rfl (fun K hK => ?_)
     go_simp
     refine hK.out _ _ (fun _ => hS2) ?_
     clear hK K
     refine Upto.one (i := 8) (by kernel_rfl) rfl (fun K hK => ?_)
     refine step_copy (by rfl) _ _ 39 (by rfl) i3 Try.underlying39 hi3 hx0 hx1 hx2 wr.heap.size (by rfl) HG.out av x.length cv x (by rfl) RD.out (by omega) ?_
     intro ac cc wc fpx mx rx tx
     have tx' : Turned [wr.heap.size] (wr.alloc (.cells #[] 3)) wc := Turned.undrew tx
     have zA : (wr.alloc (.cells #[] 3)).heap.size = wr.heap.size + 1 := by simp
     have zd : (wr.alloc (.cells #[] 3)).drew.heap.size = (wr.alloc (.cells #[] 3)).heap.size := rfl
     have hbc' : Below wr.heap.size wr wc := BA.out.trans (tx'.below (N := wr.heap.size) (by omega) (by simp))
     have xoc : Box wc BO 73 _ := XO.out.below hbc' (by omega)
     have xmc : Box wc w.heap.size 73 _ := XMR.out.below hbc' (by omega)
     have hS3 : wc.cell? ⟨BO, 0, none⟩ = some (v0) /\ wc.cell? ⟨w.heap.size, 0, none⟩ = some (.slice (some ⟨b, off, none⟩) n0 c0) /\ wc.cell? ⟨b, off + j, none⟩ = some (.slice av x.length cv) := mk.out wc xoc xmc (hbc'.block b (by omega))
     have bB : Below wc.heap.size wc (wc.alloc (.cells #[.slice ac x.length cc] 39)) := (Below.refl _ _).alloc (Nat.le_refl _) _
     have zc := hbc'.size
     have hS4 : (wc.alloc (.cells #[.slice ac x.length cc] 39)).cell? ⟨BO, 0, none⟩ = some (v0) /\ (wc.alloc (.cells #[.slice ac x.length cc] 39)).cell? ⟨w.heap.size, 0, none⟩ = some (.slice (some ⟨b, off, none⟩) n0 c0) /\ (wc.alloc (.cells #[.slice ac x.length cc] 39)).cell? ⟨b, off + j, none⟩ = some (.slice av x.length cv) := mk.out _ (xoc.alloc _) (xmc.alloc _) ((bB.block b (by omega)).trans (hbc'.block b (by omega)))
     have RX : Hid (∀ b ∈ fpx, wr.heap.size <= b /\ b < wc.heap.size) := fun b hb => by have := rx b hb; omega
     have XOC := hidden xoc
     have XMC := hidden xmc
     have MX := hidden mx
     have HBC := hidden hbc'
     have BB := hidden (Below.andThen hbc' bB)
     clear xoc xmc mx rx tx tx' hbc' bB zA zd
     refine hK.out _ _ (fun _ => hS3) ?_
     clear hK K
     simp only [Act.put, List.setIfInBounds_toArray, List.set_cons_zero, List.set_cons_succ]
     refine Upto.one (i := 9) (by kernel_rfl) rfl (fun K hK => ?_)
     go_simp
     refine hK.out _ _ (fun _ => hS4) ?_
     clear hK K
     refine Upto.one (i := 10) (by kernel_rfl) rfl (fun K hK => ?_)
     refine step_appT tIntS (by rfl) _ _ 67 (by rfl) 39 i0 (.slice none 0 0) 24 Try.underlying67 hi hz0 hz1 hz2 rfl Nat.zero_lt_one v0 (ss.take j) fp0 (by rfl) ?_ ⟨wc.heap.size, 0, none⟩ 1 [.slice ac x.length cc] x fpx (by rfl) ?_ ?_ ?_ ?_ L1.out L2.out ?_
     . exact (HM.out.below HBC.out).alloc _
     . exact MX.out.alloc _
     . intro b hb hb'
       have h1 := HM.out.lt b hb
       have h2 := RX.out b hb'
       omega
     . exact news_new _ _ _
     . intro u hu
       simp at hu
       rw [hu]
       rfl
     intro g cap wA fpA m1 m2 m3
     rw [HL.out] at m1 ⊢
     rw [← HTK.out] at m1
     have ya : Box wA BO 73 _ := (XOC.out.alloc _).turned m3 (fun hm => by have := HFP.out _ hm; omega)
     have ym : Box wA w.heap.size 73 _ := (XMC.out.alloc _).turned m3 (fun hm => by have := HFP.out _ hm; omega)
     have zB : (wc.alloc (.cells #[.slice ac x.length cc] 39)).heap.size = wc.heap.size + 1 := by simp
     have hS5 : wA.cell? ⟨BO, 0, none⟩ = some (v0) /\ wA.cell? ⟨w.heap.size, 0, none⟩ = some (.slice (some ⟨b, off, none⟩) n0 c0) /\ wA.cell? ⟨b, off + j, none⟩ = some (.slice av x.length cv) := mk.out wA ya ym ((m3.block b (by omega) (fun hm => by have := HFP.out _ hm; omega)).trans (BB.out.block b (by omega)))
     have r0 := hS5.1
     have fz := ya.frozen 0
     have YA := hidden ya
     have M1 := hidden m1
     have M2 := hidden m2
     have M3 := hidden m3
     clear ya ym m1 m2 m3 zB
     refine hK.out _ _ (fun _ => hS5) ?_
     clear hK K
     simp only [Act.put, List.setIfInBounds_toArray, List.set_cons_zero, List.set_cons_succ]
     refine Upto.t 11 hS5 ?_
     refine Upto.one (i := 12) (by kernel_rfl) rfl (fun K hK => ?_)
     go_simp
     refine hK.out _ _ (fun h => absurd rfl h) ?_
     clear hK K
     refine Upto.done (by kernel_rfl) ?_ _
     have hfA := round_fp (N := w6.heap.size) hs HBC.out HFP.out RX.out M2.out
     have frA := Fr.round FRR.out hs HBC.out _ M3.out HFP.out 0 (.slice (some ⟨g, 0, none⟩) (j + 1) cap)
     have mA := M1.out.setCell (g := BO) (j := 0) (fun hm => by have := hfA _ hm; omega) (.slice (some ⟨g, 0, none⟩) (j + 1) cap)
     have yA := YA.out.set 0 (.slice (some ⟨g, 0, none⟩) (j + 1) cap)
     have HFA := hidden hfA
     have FRA := hidden frA
     have MA := hidden mA
     have YA' := hidden yA
     clear hfA frA mA yA hS hS2 hS3 hS4 hS5 r0 YA M1 M2 M3 XOC MX RX HBC HFP HM FRR XO XMR XMC BA BB mk HG RD HX
     go_wp2
     go_roundw
     case rel => exact ⟨j + 1, _, fpA, by omega, by go_num, FRA.out, YA'.out, MA.out, HFA.out⟩
     case measure => simp [intOf]; omega
   . have e : n0 = j := by omega
     subst e
     rw [List.take_of_length_le (by omega)] at hm
     have hlt := hm.lt
     have GR := hidden (fr.box FR.out (by omega) (by omega))
     have GM := hidden xm
     have GB := hidden hb
     have G3 := hidden (fr.mine F3.out (fun b hb => by have := fs3 b hb; omega))
     have G0 := hidden (hm.own (lo := w6.heap.size) (hi := wr.heap.size) (fun b hb => ⟨hfp b hb, hlt b hb⟩))
     have GO := hidden xo
     clear fr xo xm hb hm hfp hlt FM FO F3 FB FR
     go_wp2
     generalize wr = w7 at hs GM GR GB G3 G0 GO q0 q1 q2 q3 ⊢
     go_loopw [5] (fun i wr => ∃ (j : Nat) (v1 : Value) (fp1 : List Nat), j <= n1 /\ i = .int .i64 j /\ Fr w7.heap.size BO w7 wr /\ Box wr BO 73 #[v0, v1, .bool f, .slice a5 n3 c5] /\ (tWrS 108).Mine wr [v1] (cs.take j) fp1 /\ (∀ b ∈ fp1, w7.heap.size <= b)) (fun i _ => n1 - (intOf i).toNat)
     case atStart => exact ⟨0, _, [], Nat.zero_le _, rfl, Fr.refl _ _ _, GO.out, nil_mine _, by simp⟩
     case round =>
      obtain ⟨j, v1, fp1, hj, rfl, fr, xo, hm, hfp⟩ := hrel
      have hs2 := fr.size
      have xm := fr.box GM.out (by omega) (by omega)
      have hb := GB.out.trans (fr.below (M := w.heap.size) (by omega) (by omega))
      clear q0 q1 q2 q3
      obtain ⟨q0, q1, q2, q3⟩ := xm.cells4
      by_cases hjn : j < n1
      . rcases pairs_at rfl h1 with h0' | ⟨b, off, rfl, hbl, hcs⟩
        . omega
        have hdj : cs[j]? = some (cs[j]'(by omega)) := List.getElem?_eq_getElem (by omega)
        have htk : cs.take (j + 1) = cs.take j ++ [cs[j]'(by omega)] := List.take_succ_eq_append_getElem (by omega)
        generalize cs[j]'(by omega) = x at hdj htk
        have hil := inner_le' hdj
        obtain ⟨u0, u1, hv0, hv1, hrv⟩ := hcs j x hdj
        obtain ⟨rfl, hrv'⟩ := wr_rd hrv
        obtain ⟨av, cv, rfl⟩ := row_shape hrv'
        have pv0 := (hb.cell (p := ⟨b, off + j * 2, none⟩) hbl).trans hv0
        have pv1 := (hb.cell (p := ⟨b, off + j * 2 + 1, none⟩) hbl).trans hv1
        obtain ⟨x0, x1⟩ := x
        simp only at pv0 pv1 hrv' hil
        have HX := hidden (hrv'.below hb)
        have k1 : (0 : Int) <= (j : Int) := by omega
        have k2 : (j : Int) < (n1 : Int) := by omega
        have HTK := hidden htk
        have XO := hidden xo
        have XMR := hidden xm
        have FRR := hidden fr
        have HM := hidden hm
        have HFP := hidden hfp
        have HL : Hid ((cs.take j).length = j) := by unfold Hid; rw [List.length_take]; omega
        have L1 : Hid ((cs.take j).length + 1 <= maxLen) := by unfold Hid; rw [HL.out]; unfold maxLen; omega
        have L2 : Hid (((cs.take j).length + 1) * 32 <= 140737488355328) := by unfold Hid; rw [HL.out]; omega
        have mk : Hid (∀ w', Box w' BO 73 #[v0, v1, .bool f, .slice a5 n3 c5] -> Box w' w.heap.size 73 #[.slice a0 n0 c0, .slice (some ⟨b, off, none⟩) n1 c1, .bool f, .slice a3 n3 c3] -> w'.heap[b]? = wr.heap[b]? -> w'.cell? ⟨BO, 1, none⟩ = some (v1) /\ w'.cell? ⟨w.heap.size, 1, none⟩ = some (.slice (some ⟨b, off, none⟩) n1 c1) /\ w'.cell? ⟨b, off + j * 2, none⟩ = some (.int .i64 x0) /\ w'.cell? ⟨b, off + j * 2 + 1, none⟩ = some (.slice av x1.length cv)) := fun w' e1 e2 e3 => ⟨e1.cell 1, e2.cell 1, (World.cell?_of_block e3).trans pv0, (World.cell?_of_block e3).trans pv1⟩
        have bA : Below wr.heap.size wr (wr.alloc (.cells #[] 3)) := (Below.refl _ _).alloc (Nat.le_refl _) _
        have hS : wr.drew.cell? ⟨BO, 1, none⟩ = some (v1) /\ wr.drew.cell? ⟨w.heap.size, 1, none⟩ = some (.slice (some ⟨b, off, none⟩) n1 c1) /\ wr.drew.cell? ⟨b, off + j * 2, none⟩ = some (.int .i64 x0) /\ wr.drew.cell? ⟨b, off + j * 2 + 1, none⟩ = some (.slice av x1.length cv) := mk.out wr.drew xo xm rfl
        have hS2 : (wr.alloc (.cells #[] 3)).drew.cell? ⟨BO, 1, none⟩ = some (v1) /\ (wr.alloc (.cells #[] 3)).drew.cell? ⟨w.heap.size, 1, none⟩ = some (.slice (some ⟨b, off, none⟩) n1 c1) /\ (wr.alloc (.cells #[] 3)).drew.cell? ⟨b, off + j * 2, none⟩ = some (.int .i64 x0) /\ (wr.alloc (.cells #[] 3)).drew.cell? ⟨b, off + j * 2 + 1, none⟩ = some (.slice av x1.length cv) := mk.out (wr.alloc (.cells #[] 3)).drew (xo.alloc _) (xm.alloc _) (bA.block b (by omega))
        have HG : Hid ((wr.alloc (.cells #[] 3)).drew.heap[wr.heap.size]? = some (.cells #[] 3 (0, 0))) := Box.new wr 3 #[]
        have RD : Hid (tIntS.Rd (wr.alloc (.cells #[] 3)).drew [.slice av x1.length cv] x1) := (HX.out.below bA).drew
        have BA := hidden bA
        clear hcs hdj hv0 hv1 hrv hrv' htk xo xm hm hfp hb fr pv0 pv1 bA
        go_wp2_with fail
        refine Upto.start (S := fun w' => w'.cell? ⟨BO, 1, none⟩ = some (v1) /\ w'.cell? ⟨w.heap.size, 1, none⟩ = some (.slice (some ⟨b, off, none⟩) n1 c1) /\ w'.cell? ⟨b, off + j * 2, none⟩ = some (.int .i64 x0) /\ w'.cell? ⟨b, off + j * 2 + 1, none⟩ = some (.slice av x1.length cv)) (k := 20) (by kernel_rfl) ?_
        refine Upto.t 0 hS ?_
        refine Upto.t 1 hS ?_
        refine Upto.t 2 hS ?_
        refine Upto.t 3 hS ?_
        refine Upto.t 4 hS ?_
        refine Upto.t 5 hS ?_
        refine Upto.t 6 hS ?_
        refine Upto.t 7 hS ?_
        refine Upto.t 9 hS ?_
        refine Upto.t 10 hS ?_
        refine Upto.t 11 hS ?_
        refine Upto.t 12 hS ?_
        refine Upto.t 13 hS ?_
        refine Upto.t 14 hS ?_
        refine Upto.one (i := 8) (by kernel_rfl) rfl (fun K hK => ?_)
        go_simp
        refine hK.out _ _ (fun _ => hS2) ?_
        clear hK K
        refine Upto.one (i := 15) (by kernel_rfl) rfl (fun K hK => ?_)
        refine step_copy (by rfl) _ _ 39 (by rfl) i3 Try.underlying39 hi3 hx0 hx1 hx2 wr.heap.size (by rfl) HG.out av x1.length cv x1 (by rfl) RD.out (by omega) ?_
        intro ac cc wc fpx mx rx tx
        have tx' : Turned [wr.heap.size] (wr.alloc (.cells #[] 3)) wc := Turned.undrew tx
        have zA : (wr.alloc (.cells #[] 3)).heap.size = wr.heap.size + 1 := by simp
        have zd : (wr.alloc (.cells #[] 3)).drew.heap.size = (wr.alloc (.cells #[] 3)).heap.size := rfl
        have hbc' : Below wr.heap.size wr wc := BA.out.trans (tx'.below (N := wr.heap.size) (by omega) (by simp))
        have xoc : Box wc BO 73 _ := XO.out.below hbc' (by omega)
        have xmc : Box wc w.heap.size 73 _ := XMR.out.below hbc' (by omega)
        have hS3 : wc.cell? ⟨BO, 1, none⟩ = some (v1) /\ wc.cell? ⟨w.heap.size, 1, none⟩ = some (.slice (some ⟨b, off, none⟩) n1 c1) /\ wc.cell? ⟨b, off + j * 2, none⟩ = some (.int .i64 x0) /\ wc.cell? ⟨b, off + j * 2 + 1, none⟩ = some (.slice av x1.length cv) := mk.out wc xoc xmc (hbc'.block b (by omega))
        have bB : Below wc.heap.size wc (wc.alloc (.cells #[.int .i64 x0, .slice ac x1.length cc] 108)) := (Below.refl _ _).alloc (Nat.le_refl _) _
        have zc := hbc'.size
        have hS4 : (wc.alloc (.cells #[.int .i64 x0, .slice ac x1.length cc] 108)).cell? ⟨BO, 1, none⟩ = some (v1) /\ (wc.alloc (.cells #[.int .i64 x0, .slice ac x1.length cc] 108)).cell? ⟨w.heap.size, 1, none⟩ = some (.slice (some ⟨b, off, none⟩) n1 c1) /\ (wc.alloc (.cells #[.int .i64 x0, .slice ac x1.length cc] 108)).cell? ⟨b, off + j * 2, none⟩ = some (.int .i64 x0) /\ (wc.alloc (.cells #[.int .i64 x0, .slice ac x1.length cc] 108)).cell? ⟨b, off + j * 2 + 1, none⟩ = some (.slice av x1.length cv) := mk.out _ (xoc.alloc _) (xmc.alloc _) ((bB.block b (by omega)).trans (hbc'.block b (by omega)))
        have RX : Hid (∀ b ∈ fpx, wr.heap.size <= b /\ b < wc.heap.size) := fun b hb => by have := rx b hb; omega
        have XOC := hidden xoc
        have XMC := hidden xmc
        have MX := hidden mx
        have HBC := hidden hbc'
        have BB := hidden (Below.andThen hbc' bB)
        clear xoc xmc mx rx tx tx' hbc' bB zA zd
        refine hK.out _ _ (fun _ => hS3) ?_
        clear hK K
        simp only [Act.put, List.setIfInBounds_toArray, List.set_cons_zero, List.set_cons_succ]
        refine Upto.t 16 hS3 ?_
        refine Upto.one (i := 17) (by kernel_rfl) rfl (fun K hK => ?_)
        go_simp
        refine hK.out _ _ (fun _ => hS4) ?_
        clear hK K
        refine Upto.one (i := 18) (by kernel_rfl) rfl (fun K hK => ?_)
        refine step_appT tWr (by rfl) _ _ 71 (by rfl) 108 i1 (.agg #[.int .i64 0, .slice none 0 0]) 32 Try.underlying71 hi1 hy0 hy1 hy2 rfl Nat.zero_lt_two v1 (cs.take j) fp1 (by rfl) ?_ ⟨wc.heap.size, 0, none⟩ 1 [.int .i64 x0, .slice ac x1.length cc] (x0, x1) fpx (by rfl) ?_ ?_ ?_ ?_ L1.out L2.out ?_
        . exact (HM.out.below HBC.out).alloc _
        . exact (wr_mine x0 MX.out).alloc _
        . intro b hb hb'
          have h1 := HM.out.lt b hb
          have h2 := RX.out b hb'
          omega
        . exact news_new _ _ _
        . intro u hu
          simp at hu
          rcases hu with hu | hu <;> (rw [hu]; rfl)
        intro g cap wA fpA m1 m2 m3
        rw [HL.out] at m1 ⊢
        rw [← HTK.out] at m1
        have ya : Box wA BO 73 _ := (XOC.out.alloc _).turned m3 (fun hm => by have := HFP.out _ hm; omega)
        have ym : Box wA w.heap.size 73 _ := (XMC.out.alloc _).turned m3 (fun hm => by have := HFP.out _ hm; omega)
        have zB : (wc.alloc (.cells #[.int .i64 x0, .slice ac x1.length cc] 108)).heap.size = wc.heap.size + 1 := by simp
        have hS5 : wA.cell? ⟨BO, 1, none⟩ = some (v1) /\ wA.cell? ⟨w.heap.size, 1, none⟩ = some (.slice (some ⟨b, off, none⟩) n1 c1) /\ wA.cell? ⟨b, off + j * 2, none⟩ = some (.int .i64 x0) /\ wA.cell? ⟨b, off + j * 2 + 1, none⟩ = some (.slice av x1.length cv) := mk.out wA ya ym ((m3.block b (by omega) (fun hm => by have := HFP.out _ hm; omega)).trans (BB.out.block b (by omega)))
        have r0 := hS5.1
        have fz := ya.frozen 1
        have YA := hidden ya
        have M1 := hidden m1
        have M2 := hidden m2
        have M3 := hidden m3
        clear ya ym m1 m2 m3 zB
        refine hK.out _ _ (fun _ => hS5) ?_
        clear hK K
        simp only [Act.put, List.setIfInBounds_toArray, List.set_cons_zero, List.set_cons_succ]
        refine Upto.t 19 hS5 ?_
        refine Upto.one (i := 20) (by kernel_rfl) rfl (fun K hK => ?_)
        go_simp
        refine hK.out _ _ (fun h => absurd rfl h) ?_
        clear hK K
        refine Upto.done (by kernel_rfl) ?_ _
        have hfA := round_fp (N := w7.heap.size) hs2 HBC.out HFP.out RX.out M2.out
        have frA := Fr.round FRR.out hs2 HBC.out _ M3.out HFP.out 1 (.slice (some ⟨g, 0, none⟩) (j + 1) cap)
        have mA := M1.out.setCell (g := BO) (j := 1) (fun hm => by have := hfA _ hm; omega) (.slice (some ⟨g, 0, none⟩) (j + 1) cap)
        have yA := YA.out.set 1 (.slice (some ⟨g, 0, none⟩) (j + 1) cap)
        have HFA := hidden hfA
        have FRA := hidden frA
        have MA := hidden mA
        have YA' := hidden yA
        clear hfA frA mA yA hS hS2 hS3 hS4 hS5 r0 YA M1 M2 M3 XOC MX RX HBC HFP HM FRR XO XMR XMC BA BB mk HG RD HX
        go_wp2
        go_roundw
        case rel => exact ⟨j + 1, _, fpA, by omega, by go_num, FRA.out, YA'.out, MA.out, HFA.out⟩
        case measure => simp [intOf]; omega
      . have e : n1 = j := by omega
        subst e
        rw [List.take_of_length_le (by omega)] at hm
        have hlt := hm.lt
        have xr := fr.box GR.out (by omega) (by omega)
        obtain ⟨p0, p1, p2, p3⟩ := xr.cells4
        have fz := xr.frozen
        obtain ⟨r0, r1, r2, r3⟩ := xo.cells4
        have K3 := fr.mine G3.out (fun b hb => by have := fs3 b hb; omega)
        have K0 := fr.own G0.out (by omega) (by omega)
        have K1 := hm.own (lo := w7.heap.size) (hi := wr.heap.size) (fun b hb => ⟨hfp b hb, hlt b hb⟩)
        have KB := GB.out.trans (fr.below (M := w.heap.size) (by omega) (by omega))
        obtain ⟨e0, g0, hv0⟩ := row_shape K0.rd
        obtain ⟨e1, g1, hv1⟩ := row_shape K1.rd
        rw [hl0] at hv0
        rw [hl1] at hv1
        subst hv0 hv1
        have hbt : But (w.heap.size + 1) (w.heap.size + 2) wr ((((wr.setCell ⟨w.heap.size + 1, 0, none⟩ (.slice e0 n0 g0)).setCell ⟨w.heap.size + 1, 1, none⟩ (.slice e1 n1 g1)).setCell ⟨w.heap.size + 1, 2, none⟩ (.bool f)).setCell ⟨w.heap.size + 1, 3, none⟩ (.slice a5 n3 c5)) :=
         (((But.setCell (by omega) (by omega) _).trans (But.setCell (by omega) (by omega) _)).trans (But.setCell (by omega) (by omega) _)).trans (But.setCell (by omega) (by omega) _)
        have H3 := hidden ((K3.but hbt (fun b hb => by have := fs3 b hb; omega)).own (lo := w.heap.size) (hi := w6.heap.size) (fun b hb => by have := fs3 b hb; omega))
        have H0 := hidden (K0.but hbt (by omega))
        have H1 := hidden (K1.but hbt (by omega))
        have HB := hidden (Below.andBut KB hbt (by omega))
        have hsz := hbt.size
        clear fr xo xm hb hm hfp hlt xr K3 K0 K1 KB hbt GM GR GB G3 G0 GO
        go_wp2
        refine bodyPost_ret (v := .agg #[.slice e0 n0 g0, .slice e1 n1 g1, .bool f, .slice a5 n3 c5]) (by simp [results, Try.results54, go_sem, p0, p1, p2, p3]) rfl ?_
        exact ⟨_, _, _, w6.heap.size, w7.heap.size, rfl, H3.out, H0.out, H1.out.widen (Nat.le_refl _) hsz, by omega, by omega, by omega, HB.out⟩

theorem getD_some {ss : List (List Int)} {k : Nat} (h : k < ss.length) : ss[k]? = some (ss.getD k []) := by
 rw [List.getD_eq_getElem?_getD, List.getElem?_eq_getElem h]
 rfl

end Go.Proofs.Ytlcjfgmmjkandaa

namespace Go.Proofs.Ytlcjfgmmjkandaa
open Go.RowKit Go.Maps

def RestOk (w : World) (ks : List (Int × List Int)) (j : Nat) (D : DataW Value) : Prop :=
 ∀ q : Nat, j <= q -> (lastW ks (q : Int) = none -> Maps.has D (.int .i64 q) = false) /\ ∀ zs, lastW ks (q : Int) = some zs -> Maps.has D (.int .i64 q) = true /\ ∃ a cap, (∀ z, D.atKey (.int .i64 q) z = .held (.agg #[.int .i64 q, .slice a zs.length cap])) /\ tIntS.Rd w [.slice a zs.length cap] zs
theorem LastOk.rest {w : World} {ks : List (Int × List Int)} {D : DataW Value} (h : LastOk w ks D) : RestOk w ks 0 D := fun q _ => ⟨(h q).1, fun zs hz => by
 obtain ⟨h1, a, n, cap, h2, h3⟩ := (h q).2 zs hz
 obtain ⟨hl, _, _⟩ := row_length h3
 subst hl
 exact ⟨h1, a, cap, h2, h3⟩⟩
theorem RestOk.next {w : World} {ks : List (Int × List Int)} {j : Nat} {D : DataW Value} (h : RestOk w ks j D) : RestOk w ks (j + 1) D := fun q hq => h q (by omega)
theorem RestOk.empty {w : World} {ks : List (Int × List Int)} {j : Nat} {D : DataW Value} (h : RestOk w ks j D) (hD : IsMap D) (hz : Maps.size D = 0) : ∀ q : Nat, j <= q -> lastW ks (q : Int) = none := by
 intro q hq
 cases hl : lastW ks (q : Int) with
 | none => rfl
 | some zs =>
  have h1 := ((h q hq).2 zs hl).1
  obtain ⟨es, rfl⟩ := hD
  have h2 : es = [] := List.eq_nil_of_length_eq_zero hz
  subst h2
  simp [Maps.has] at h1
end Go.Proofs.Ytlcjfgmmjkandaa

namespace Go.Proofs.Ytlcjfgmmjkandaa
open Go.RowKit

def MsOk (ms : List MemD) : Prop := ∀ (i : Nat) (d : MemD), ms[i]? = some d -> memB d.1 d.2.1 d.2.2.2 = true

def SameN (x y : ArrN) : Prop := y.id = x.id /\ y.n = x.n /\ y.s = x.s /\ y.lost = x.lost /\ y.built = x.built /\ y.seq = x.seq /\ y.tail = x.tail /\ y.gen = x.gen /\ y.broken = x.broken /\ y.fuse <= 1000 /\ (-1 <= x.fuse -> -1 <= y.fuse)
theorem SameN.refl {x : ArrN} (h : x.fuse <= 1000) : SameN x x := ⟨rfl, rfl, rfl, rfl, rfl, rfl, rfl, rfl, rfl, h, fun h => h⟩
theorem SameN.trans {x y z : ArrN} (h : SameN x y) (k : SameN y z) : SameN x z := by
 obtain ⟨a1, a2, a3, a4, a5, a6, a7, a8, a9, _, b⟩ := h
 obtain ⟨c1, c2, c3, c4, c5, c6, c7, c8, c9, c10, d⟩ := k
 exact ⟨c1.trans a1, c2.trans a2, c3.trans a3, c4.trans a4, c5.trans a5, c6.trans a6, c7.trans a7, c8.trans a8, c9.trans a9, c10, fun h => d (b h)⟩
theorem MsOk.set {ms : List MemD} {i : Nat} {d : MemD} (h : MsOk ms) (hd : memB d.1 d.2.1 d.2.2.2 = true) : MsOk (ms.set i d) := by
 intro k e he
 by_cases hk : k = i
 . subst hk
   by_cases hl : k < ms.length
   . rw [List.getElem?_set_self hl] at he
     simp at he
     subst he
     exact hd
   . rw [List.getElem?_eq_none (by rw [List.length_set]; omega)] at he
     cases he
 . rw [List.getElem?_set_ne (fun e => hk e.symm)] at he
   exact h k e he

def ArrOut (w w' : World) (e : Ending) (q : ArrN × List MemD) (ds : List (Int × List Int)) : Prop :=
 ∃ (bm bd : Option Addr) (cm cd : Nat), e = .returned (.agg (arrC q.1 (.slice bm q.2.length cm) (.slice bd ds.length cd))) /\ ArrIn w' w.heap.size w'.heap.size bm bd q.2.length cm ds.length cd q.2 ds /\ Below w.heap.size w w'
theorem Moved.belowN {B N : Nat} {f1 f2 : List Nat} {w1 w2 : World} (h : Moved B f1 w1 f2 w2) (hB : N <= B) (hf : ∀ b ∈ f1, N <= b) (hN : N <= w1.heap.size) : Below N w1 w2 :=
 ⟨h.1.os, h.1.tape, h.1.output, h.1.size, fun k hk => h.1.block k (by omega) (fun hm => by
  rcases List.mem_cons.1 hm with e | hm
  . omega
  . have := hf k hm; omega)⟩
theorem arr_out {w w4 : World} {R lo : Nat} {y : ArrN} {ns : List MemD} {ds : List (Int × List Int)} {vm vd : Option Addr} {cvm cvd : Nat} {fm fd : List Nat} {e : Ending} {T : TypeId} {cs : Array Value} (hb : Below w.heap.size w w4) (_ : Box w4 R T cs) (he : e = .returned (.agg (arrC y (.slice vm ns.length cvm) (.slice vd ds.length cvd)))) (hm : (tMemS 108 73).Mine w4 [.slice vm ns.length cvm] ns fm) (hd : (tWrS 99).Mine w4 [.slice vd ds.length cvd] ds fd) (hr : ∀ b ∈ fm, b ∉ fd) (rm : ∀ b ∈ fm, lo <= b) (rd : ∀ b ∈ fd, lo <= b) (h1 : w.heap.size <= R) (h2 : R < lo) :
 ArrOut w (puts w4 R [(0, .int .i64 y.id), (1, .int .i64 y.n), (2, .int .i64 y.s), (3, .slice vm ns.length cvm), (4, .int .i64 y.lost), (5, .int .i64 y.built), (6, .int .i64 y.seq), (7, .int .i64 y.tail), (8, .int .i64 y.gen), (9, .slice vd ds.length cvd), (10, .int .i64 y.fuse), (11, .bool y.down), (12, .bool y.broken)]) e (y, ns) ds := by
 have hbt := puts_but R [(0, .int .i64 y.id), (1, .int .i64 y.n), (2, .int .i64 y.s), (3, .slice vm ns.length cvm), (4, .int .i64 y.lost), (5, .int .i64 y.built), (6, .int .i64 y.seq), (7, .int .i64 y.tail), (8, .int .i64 y.gen), (9, .slice vd ds.length cvd), (10, .int .i64 y.fuse), (11, .bool y.down), (12, .bool y.broken)] w4
 have hz := hbt.size
 have hlm := hm.lt
 have hld := hd.lt
 refine ⟨vm, vd, cvm, cvd, he, ⟨fm, fd, hm.but hbt (fun b hb => by have := rm b hb; omega), hd.but hbt (fun b hb => by have := rd b hb; omega), hr, fun b hb => ?_, fun b hb => ?_⟩, Below.andBut hb hbt h1⟩
 . have h3 := rm b hb
   have h4 := hlm b hb
   omega
 . have h3 := rd b hb
   have h4 := hld b hb
   omega

theorem copyArr_any (w : World) (E F G : TypeId) (x : ArrN) (am ad : Option Addr) (nm cm nd cd : Nat) (ms : List MemD) (ds : List (Int × List Int)) (h0 : (tMemS E F).Rd w [.slice am nm cm] ms) (h1 : (tWrS G).Rd w [.slice ad nd cd] ds) (hw : wtArr ms ds <= 2097152) :
 Calls Try.prog 36 #[.agg #[.int .i64 x.id, .int .i64 x.n, .int .i64 x.s, .slice am nm cm, .int .i64 x.lost, .int .i64 x.built, .int .i64 x.seq, .int .i64 x.tail, .int .i64 x.gen, .slice ad nd cd, .int .i64 x.fuse, .bool x.down, .bool x.broken]] w fun e w' => ∃ bm cm' bd cd' m, e = .returned (.agg #[.int .i64 x.id, .int .i64 x.n, .int .i64 x.s, .slice bm nm cm', .int .i64 x.lost, .int .i64 x.built, .int .i64 x.seq, .int .i64 x.tail, .int .i64 x.gen, .slice bd nd cd', .int .i64 x.fuse, .bool x.down, .bool x.broken]) /\ (tMemS 108 73).Own w' w.heap.size m [.slice bm nm cm'] ms /\ (tWrS 99).Own w' m w'.heap.size [.slice bd nd cd'] ds /\ w.heap.size <= m /\ m <= w'.heap.size /\ Below w.heap.size w w' := by
 have hwm : wtMemS ms <= 2097152 := by unfold wtArr at hw; omega
 have hwd : wtWrS ds <= 2097152 := by unfold wtArr at hw; omega
 obtain ⟨hl0, _, hm0⟩ := row_length h0
 obtain ⟨hl1, _, hm1⟩ := row_length h1
 have hn0 : nm <= 2097152 := by unfold wtMemS at hwm; omega
 have hn1 : nd <= 2097152 := by unfold wtWrS at hwd; omega
 obtain ⟨i1, hi1, hy0, hy1, hy2⟩ := info_parts Try.infoEnt
 obtain ⟨i4, hi4, hz0, hz1, hz2⟩ := info_parts Try.infoMem
 have zz : ∀ u : World, ∀ ob : Obj, (u.alloc ob).heap.size = u.heap.size + 1 := fun u ob => by simp
 have xm : Box (((w.alloc (.cells #[.int .i64 x.id, .int .i64 x.n, .int .i64 x.s, .slice am nm cm, .int .i64 x.lost, .int .i64 x.built, .int .i64 x.seq, .int .i64 x.tail, .int .i64 x.gen, .slice ad nd cd, .int .i64 x.fuse, .bool x.down, .bool x.broken] 33)).alloc (.cells #[.int .i64 0, .int .i64 0, .int .i64 0, .slice none 0 0, .int .i64 0, .int .i64 0, .int .i64 0, .int .i64 0, .int .i64 0, .slice none 0 0, .int .i64 0, .bool false, .bool false] 33)).alloc (.cells #[.int .i64 x.id, .int .i64 x.n, .int .i64 x.s, .slice none 0 0, .int .i64 x.lost, .int .i64 x.built, .int .i64 x.seq, .int .i64 x.tail, .int .i64 x.gen, .slice none 0 0, .int .i64 x.fuse, .bool x.down, .bool x.broken] 33)) (w.heap.size) 33 #[.int .i64 x.id, .int .i64 x.n, .int .i64 x.s, .slice am nm cm, .int .i64 x.lost, .int .i64 x.built, .int .i64 x.seq, .int .i64 x.tail, .int .i64 x.gen, .slice ad nd cd, .int .i64 x.fuse, .bool x.down, .bool x.broken] := ((Box.new w _ _).alloc _).alloc _
 have xr0 := Box.new (w.alloc (.cells #[.int .i64 x.id, .int .i64 x.n, .int .i64 x.s, .slice am nm cm, .int .i64 x.lost, .int .i64 x.built, .int .i64 x.seq, .int .i64 x.tail, .int .i64 x.gen, .slice ad nd cd, .int .i64 x.fuse, .bool x.down, .bool x.broken] 33)) 33 #[.int .i64 0, .int .i64 0, .int .i64 0, .slice none 0 0, .int .i64 0, .int .i64 0, .int .i64 0, .int .i64 0, .int .i64 0, .slice none 0 0, .int .i64 0, .bool false, .bool false]
 rw [zz] at xr0
 have xr : Box (((w.alloc (.cells #[.int .i64 x.id, .int .i64 x.n, .int .i64 x.s, .slice am nm cm, .int .i64 x.lost, .int .i64 x.built, .int .i64 x.seq, .int .i64 x.tail, .int .i64 x.gen, .slice ad nd cd, .int .i64 x.fuse, .bool x.down, .bool x.broken] 33)).alloc (.cells #[.int .i64 0, .int .i64 0, .int .i64 0, .slice none 0 0, .int .i64 0, .int .i64 0, .int .i64 0, .int .i64 0, .int .i64 0, .slice none 0 0, .int .i64 0, .bool false, .bool false] 33)).alloc (.cells #[.int .i64 x.id, .int .i64 x.n, .int .i64 x.s, .slice none 0 0, .int .i64 x.lost, .int .i64 x.built, .int .i64 x.seq, .int .i64 x.tail, .int .i64 x.gen, .slice none 0 0, .int .i64 x.fuse, .bool x.down, .bool x.broken] 33)) (w.heap.size + 1) 33 #[.int .i64 0, .int .i64 0, .int .i64 0, .slice none 0 0, .int .i64 0, .int .i64 0, .int .i64 0, .int .i64 0, .int .i64 0, .slice none 0 0, .int .i64 0, .bool false, .bool false] := xr0.alloc _
 have xo := Box.new ((w.alloc (.cells #[.int .i64 x.id, .int .i64 x.n, .int .i64 x.s, .slice am nm cm, .int .i64 x.lost, .int .i64 x.built, .int .i64 x.seq, .int .i64 x.tail, .int .i64 x.gen, .slice ad nd cd, .int .i64 x.fuse, .bool x.down, .bool x.broken] 33)).alloc (.cells #[.int .i64 0, .int .i64 0, .int .i64 0, .slice none 0 0, .int .i64 0, .int .i64 0, .int .i64 0, .int .i64 0, .int .i64 0, .slice none 0 0, .int .i64 0, .bool false, .bool false] 33)) 33 #[.int .i64 x.id, .int .i64 x.n, .int .i64 x.s, .slice none 0 0, .int .i64 x.lost, .int .i64 x.built, .int .i64 x.seq, .int .i64 x.tail, .int .i64 x.gen, .slice none 0 0, .int .i64 x.fuse, .bool x.down, .bool x.broken]
 rw [zz, zz] at xo
 have hB : Below (w.heap.size) w (((w.alloc (.cells #[.int .i64 x.id, .int .i64 x.n, .int .i64 x.s, .slice am nm cm, .int .i64 x.lost, .int .i64 x.built, .int .i64 x.seq, .int .i64 x.tail, .int .i64 x.gen, .slice ad nd cd, .int .i64 x.fuse, .bool x.down, .bool x.broken] 33)).alloc (.cells #[.int .i64 0, .int .i64 0, .int .i64 0, .slice none 0 0, .int .i64 0, .int .i64 0, .int .i64 0, .int .i64 0, .int .i64 0, .slice none 0 0, .int .i64 0, .bool false, .bool false] 33)).alloc (.cells #[.int .i64 x.id, .int .i64 x.n, .int .i64 x.s, .slice none 0 0, .int .i64 x.lost, .int .i64 x.built, .int .i64 x.seq, .int .i64 x.tail, .int .i64 x.gen, .slice none 0 0, .int .i64 x.fuse, .bool x.down, .bool x.broken] 33)) := (((Below.refl _ _).alloc (Nat.le_refl _) _).alloc (by simp) _).alloc (by simp; omega) _
 have hz : (((w.alloc (.cells #[.int .i64 x.id, .int .i64 x.n, .int .i64 x.s, .slice am nm cm, .int .i64 x.lost, .int .i64 x.built, .int .i64 x.seq, .int .i64 x.tail, .int .i64 x.gen, .slice ad nd cd, .int .i64 x.fuse, .bool x.down, .bool x.broken] 33)).alloc (.cells #[.int .i64 0, .int .i64 0, .int .i64 0, .slice none 0 0, .int .i64 0, .int .i64 0, .int .i64 0, .int .i64 0, .int .i64 0, .slice none 0 0, .int .i64 0, .bool false, .bool false] 33)).alloc (.cells #[.int .i64 x.id, .int .i64 x.n, .int .i64 x.s, .slice none 0 0, .int .i64 x.lost, .int .i64 x.built, .int .i64 x.seq, .int .i64 x.tail, .int .i64 x.gen, .slice none 0 0, .int .i64 x.fuse, .bool x.down, .bool x.broken] 33)).heap.size = w.heap.size + 1 + 1 + 1 := by simp
 have cm3 := xm.cell 3
 have cm9 := xm.cell 9
 clear xr0 zz
 go_enter Try.func36, Try.ntmps36
 go_wp2
 clear cm3 cm9
 generalize ((w.alloc (.cells #[.int .i64 x.id, .int .i64 x.n, .int .i64 x.s, .slice am nm cm, .int .i64 x.lost, .int .i64 x.built, .int .i64 x.seq, .int .i64 x.tail, .int .i64 x.gen, .slice ad nd cd, .int .i64 x.fuse, .bool x.down, .bool x.broken] 33)).alloc (.cells #[.int .i64 0, .int .i64 0, .int .i64 0, .slice none 0 0, .int .i64 0, .int .i64 0, .int .i64 0, .int .i64 0, .int .i64 0, .slice none 0 0, .int .i64 0, .bool false, .bool false] 33)).alloc (.cells #[.int .i64 x.id, .int .i64 x.n, .int .i64 x.s, .slice none 0 0, .int .i64 x.lost, .int .i64 x.built, .int .i64 x.seq, .int .i64 x.tail, .int .i64 x.gen, .slice none 0 0, .int .i64 x.fuse, .bool x.down, .bool x.broken] 33) = W2 at xm xr xo hB hz ⊢
 obtain ⟨LB, hLB⟩ : ∃ LB, W2.heap.size = LB := ⟨_, rfl⟩
 rw [hLB] at hz
 have q3 : w.heap.size + 1 + 1 + 1 <= LB /\ LB <= w.heap.size + 1 + 1 + 1 := by omega
 have hzL : LB <= W2.heap.size := by omega
 clear hLB hz
 obtain ⟨BO, hBO⟩ : ∃ BO, w.heap.size + 1 + 1 = BO := ⟨_, rfl⟩
 rw [hBO] at xo ⊢
 have q2 : w.heap.size + 1 + 1 <= BO /\ BO <= w.heap.size + 1 + 1 := by omega
 clear hBO
 obtain ⟨BR, hBR⟩ : ∃ BR, w.heap.size + 1 = BR := ⟨_, rfl⟩
 rw [hBR] at xr ⊢
 have q1 : w.heap.size + 1 <= BR /\ BR <= w.heap.size + 1 := by omega
 clear hBR
 have XM2 := hidden xm
 have XR2 := hidden xr
 have XO2 := hidden xo
 have HB2 := hidden hB
 clear xm xr xo hB
 go_loopw [14] (fun i wr => ∃ (j : Nat) (v0 : Value) (fp0 : List Nat), j <= nm /\ i = .int .i64 j /\ Fr LB BO W2 wr /\ Box wr BO 33 #[.int .i64 x.id, .int .i64 x.n, .int .i64 x.s, v0, .int .i64 x.lost, .int .i64 x.built, .int .i64 x.seq, .int .i64 x.tail, .int .i64 x.gen, .slice none 0 0, .int .i64 x.fuse, .bool x.down, .bool x.broken] /\ (tMemS 108 73).Mine wr [v0] (ms.take j) fp0 /\ (∀ b ∈ fp0, LB <= b)) (fun i _ => nm - (intOf i).toNat)
 case atStart => exact ⟨0, _, [], Nat.zero_le _, rfl, Fr.refl _ _ _, XO2.out, nil_mine _, by simp⟩
 case round =>
  obtain ⟨j, v0, fp0, hj, rfl, fr, xo, hm, hfp⟩ := hrel
  have hs := fr.size
  have hb := HB2.out.trans (fr.below (M := w.heap.size) (by omega) (by omega))
  by_cases hjn : j < nm
  . rcases quads_at rfl h0 with h0' | ⟨b, off, rfl, hbl, hcs⟩
    . omega
    have hdj : ms[j]? = some (ms[j]'(by omega)) := List.getElem?_eq_getElem (by omega)
    have htk : ms.take (j + 1) = ms.take j ++ [ms[j]'(by omega)] := List.take_succ_eq_append_getElem (by omega)
    generalize ms[j]'(by omega) = d at hdj htk
    have hin := Nat.le_trans (inner_leM hdj) hwm
    obtain ⟨u0, u1, u2, u3, hv0, hv1, hv2, hv3, hrv⟩ := hcs j d hdj
    obtain ⟨a0, c0, a1, c1, a3, c3', ss, cs, f, bs, rfl, rfl, rfl, rfl, rfl, r0, r1, r3⟩ := mem_at hrv
    have pv0 := (hb.cell (p := ⟨b, off + j * 4, none⟩) hbl).trans hv0
    have pv1 := (hb.cell (p := ⟨b, off + j * 4 + 1, none⟩) hbl).trans hv1
    have pv2 := (hb.cell (p := ⟨b, off + j * 4 + 2, none⟩) hbl).trans hv2
    have pv3 := (hb.cell (p := ⟨b, off + j * 4 + 3, none⟩) hbl).trans hv3
    have nb := new_below wr (.cells #[.slice a0 ss.length c0, .slice a1 cs.length c1, .bool f, .slice a3 bs.length c3'] 73)
    have hzm : (wr.alloc (.cells #[.slice a0 ss.length c0, .slice a1 cs.length c1, .bool f, .slice a3 bs.length c3'] 73)).heap.size = wr.heap.size + 1 := by simp
    have hbm := Below.andThen hb nb
    have R0 := hidden (r0.below hbm)
    have R1 := hidden (r1.below hbm)
    have R3 := hidden (r3.below hbm)
    have xom := xo.alloc (.cells #[.slice a0 ss.length c0, .slice a1 cs.length c1, .bool f, .slice a3 bs.length c3'] 73)
    have xmm := Box.new wr 73 #[.slice a0 ss.length c0, .slice a1 cs.length c1, .bool f, .slice a3 bs.length c3']
    have hmm := hm.alloc (.cells #[.slice a0 ss.length c0, .slice a1 cs.length c1, .bool f, .slice a3 bs.length c3'] 73)
    have frm : Fr LB BO W2 (wr.alloc (.cells #[.slice a0 ss.length c0, .slice a1 cs.length c1, .bool f, .slice a3 bs.length c3'] 73)) := fr.trans (Fr.ofBelow nb (by omega))
    have k1 : (0 : Int) <= (j : Int) := by omega
    have k2 : (j : Int) < (nm : Int) := by omega
    have HL : Hid ((ms.take j).length = j) := by unfold Hid; rw [List.length_take]; omega
    have L1 : Hid ((ms.take j).length + 1 <= maxLen) := by unfold Hid; rw [HL.out]; unfold maxLen; omega
    have L2 : Hid (((ms.take j).length + 1) * 80 <= 140737488355328) := by unfold Hid; rw [HL.out]; omega
    have hlt0 : ∀ b ∈ fp0, b < wr.heap.size := hm.lt
    have HTK := hidden htk
    have FRR := hidden frm
    have HM := hidden hmm
    have HFP := hidden hfp
    have XO := hidden xom
    have XMM := hidden xmm
    clear hcs hdj hv0 hv1 hv2 hv3 hrv htk xo hm hfp hb fr r0 r1 r3 nb hbm xom xmm hmm frm
    go_wp2_with fail
    generalize wr.alloc (.cells #[.slice a0 ss.length c0, .slice a1 cs.length c1, .bool f, .slice a3 bs.length c3'] 73) = wm at R0 R1 R3 FRR HM XO XMM hzm ⊢
    have FLT := hidden hlt0
    obtain ⟨MB, hMB⟩ : ∃ MB, wr.heap.size = MB := ⟨_, rfl⟩
    rw [hMB] at XMM hzm hs FLT ⊢
    clear hMB pv0 pv1 pv2 pv3
    have zMB : MB < wm.heap.size := by omega
    have zBO : BO < wm.heap.size := by omega
    have hzm2 : MB + 1 <= wm.heap.size := by omega
    clear hzm
    have mk : Hid (∀ w', Box w' BO 33 #[.int .i64 x.id, .int .i64 x.n, .int .i64 x.s, v0, .int .i64 x.lost, .int .i64 x.built, .int .i64 x.seq, .int .i64 x.tail, .int .i64 x.gen, .slice none 0 0, .int .i64 x.fuse, .bool x.down, .bool x.broken] -> Box w' MB 73 #[.slice a0 ss.length c0, .slice a1 cs.length c1, .bool f, .slice a3 bs.length c3'] -> w'.cell? ⟨BO, 3, none⟩ = some (v0) /\ w'.cell? ⟨MB, 0, none⟩ = some (.slice a0 ss.length c0) /\ w'.cell? ⟨MB, 1, none⟩ = some (.slice a1 cs.length c1) /\ w'.cell? ⟨MB, 2, none⟩ = some (.bool f) /\ w'.cell? ⟨MB, 3, none⟩ = some (.slice a3 bs.length c3')) := fun w' h1 h2 => ⟨h1.cell 3, h2.cell 0, h2.cell 1, h2.cell 2, h2.cell 3⟩
    have hS : wm.drew.cell? ⟨BO, 3, none⟩ = some (v0) /\ wm.drew.cell? ⟨MB, 0, none⟩ = some (.slice a0 ss.length c0) /\ wm.drew.cell? ⟨MB, 1, none⟩ = some (.slice a1 cs.length c1) /\ wm.drew.cell? ⟨MB, 2, none⟩ = some (.bool f) /\ wm.drew.cell? ⟨MB, 3, none⟩ = some (.slice a3 bs.length c3') := mk.out wm.drew XO.out XMM.out
    refine Upto.start (S := fun w' => w'.cell? ⟨BO, 3, none⟩ = some (v0) /\ w'.cell? ⟨MB, 0, none⟩ = some (.slice a0 ss.length c0) /\ w'.cell? ⟨MB, 1, none⟩ = some (.slice a1 cs.length c1) /\ w'.cell? ⟨MB, 2, none⟩ = some (.bool f) /\ w'.cell? ⟨MB, 3, none⟩ = some (.slice a3 bs.length c3')) (k := 7) (by kernel_rfl) ?_
    refine Upto.t 0 hS ?_
    refine Upto.t 1 hS ?_
    refine Upto.t 2 hS ?_
    refine Upto.one (i := 3) (by kernel_rfl) rfl (fun K hK => ?_)
    go_simp
    refine (copyMem_any _ E _ _ _ _ _ _ _ _ _ ss cs f bs R0.out.drew R1.out.drew R3.out.drew hin).mono ?_
    rintro e wc ⟨y0, y1, y3, m1, m2, rfl, o3, o0, o1, hm12, hm01, hm22, bc⟩
    have hbc' : Below wm.heap.size wm wc := (Below.refl wm.heap.size wm).drew.trans bc
    have hm01' : wm.heap.size <= m1 := hm01
    have om : (tMem 108).Own wc wm.heap.size wc.heap.size [y0, y1, .bool f, y3] (ss, cs, f, bs) := mem_own3 o0 o1 o3 (.inl (Nat.le_refl _)) (.inr (Nat.le_refl _)) (.inr hm12) ⟨by omega, by omega⟩ ⟨by omega, Nat.le_refl _⟩ ⟨Nat.le_refl _, by omega⟩
    obtain ⟨e0, g0, rfl⟩ := row_shape o0.rd
    obtain ⟨e1, g1, rfl⟩ := row_shape o1.rd
    obtain ⟨e3, g3, rfl⟩ := row_shape o3.rd
    obtain ⟨fpx, mx, rx⟩ := om.mine
    have xoc := XO.out.below hbc' zBO
    have xmc := XMM.out.below hbc' zMB
    have hS3 : wc.cell? ⟨BO, 3, none⟩ = some (v0) /\ wc.cell? ⟨MB, 0, none⟩ = some (.slice a0 ss.length c0) /\ wc.cell? ⟨MB, 1, none⟩ = some (.slice a1 cs.length c1) /\ wc.cell? ⟨MB, 2, none⟩ = some (.bool f) /\ wc.cell? ⟨MB, 3, none⟩ = some (.slice a3 bs.length c3') := mk.out wc xoc xmc
    have zc := hbc'.size
    have hS4 : (wc.alloc (.cells #[.slice e0 ss.length g0, .slice e1 cs.length g1, .bool f, .slice e3 bs.length g3] 73)).cell? ⟨BO, 3, none⟩ = some (v0) /\ (wc.alloc (.cells #[.slice e0 ss.length g0, .slice e1 cs.length g1, .bool f, .slice e3 bs.length g3] 73)).cell? ⟨MB, 0, none⟩ = some (.slice a0 ss.length c0) /\ (wc.alloc (.cells #[.slice e0 ss.length g0, .slice e1 cs.length g1, .bool f, .slice e3 bs.length g3] 73)).cell? ⟨MB, 1, none⟩ = some (.slice a1 cs.length c1) /\ (wc.alloc (.cells #[.slice e0 ss.length g0, .slice e1 cs.length g1, .bool f, .slice e3 bs.length g3] 73)).cell? ⟨MB, 2, none⟩ = some (.bool f) /\ (wc.alloc (.cells #[.slice e0 ss.length g0, .slice e1 cs.length g1, .bool f, .slice e3 bs.length g3] 73)).cell? ⟨MB, 3, none⟩ = some (.slice a3 bs.length c3') := mk.out _ (xoc.alloc _) (xmc.alloc _)
    have XOC := hidden xoc
    have XMC := hidden xmc
    have MX := hidden mx
    have RX := hidden rx
    have HBC := hidden hbc'
    clear xoc xmc mx rx hbc' bc om o0 o1 o3 hm01 hm01' hm12 hm22 R0 R1 R3
    go_wp2_with fail
    refine hK.out _ _ (fun _ => hS3) ?_
    clear hK K
    refine Upto.one (i := 4) (by kernel_rfl) rfl (fun K hK => ?_)
    go_simp
    refine hK.out _ _ (fun _ => hS4) ?_
    clear hK K
    refine Upto.one (i := 5) (by kernel_rfl) rfl (fun K hK => ?_)
    refine step_appT (tMem 108) (by rfl) _ _ 30 (by rfl) 73 i4 (.agg #[.slice none 0 0, .slice none 0 0, .bool false, .slice none 0 0]) 80 Try.underlying30 hi4 hz0 hz1 hz2 rfl (by decide) v0 (ms.take j) fp0 (by rfl) ?_ ⟨wc.heap.size, 0, none⟩ 1 [.slice e0 ss.length g0, .slice e1 cs.length g1, .bool f, .slice e3 bs.length g3] (ss, cs, f, bs) fpx (by rfl) ?_ ?_ ?_ ?_ L1.out L2.out ?_
    . exact (HM.out.below HBC.out).alloc _
    . exact MX.out.alloc _
    . intro b hb hb'
      have h1 := HM.out.lt b hb
      have h2 := RX.out b hb'
      omega
    . exact news_new _ _ _
    . intro u hu
      simp at hu
      rcases hu with hu | hu | hu | hu <;> (rw [hu]; rfl)
    intro g cap wA fpA m1 m2 m3
    rw [HL.out] at m1 ⊢
    rw [← HTK.out] at m1
    have nMB : MB ∉ fp0 := fun hm => by have := FLT.out _ hm; omega
    have ya := (XOC.out.alloc (.cells #[.slice e0 ss.length g0, .slice e1 cs.length g1, .bool f, .slice e3 bs.length g3] 73)).turned m3 (fun hm => by have := HFP.out _ hm; omega)
    have ym := (XMC.out.alloc (.cells #[.slice e0 ss.length g0, .slice e1 cs.length g1, .bool f, .slice e3 bs.length g3] 73)).turned m3 nMB
    have hS5 : wA.cell? ⟨BO, 3, none⟩ = some (v0) /\ wA.cell? ⟨MB, 0, none⟩ = some (.slice a0 ss.length c0) /\ wA.cell? ⟨MB, 1, none⟩ = some (.slice a1 cs.length c1) /\ wA.cell? ⟨MB, 2, none⟩ = some (.bool f) /\ wA.cell? ⟨MB, 3, none⟩ = some (.slice a3 bs.length c3') := mk.out wA ya ym
    have r0 := hS5.1
    have fz := ya.frozen 3
    have YA := hidden ya
    have M1 := hidden m1
    have M2 := hidden m2
    have M3 := hidden m3
    clear ya ym m1 m2 m3 nMB
    refine hK.out _ _ (fun _ => hS5) ?_
    clear hK K
    simp only [Act.put, List.setIfInBounds_toArray, List.set_cons_zero, List.set_cons_succ]
    refine Upto.t 6 hS5 ?_
    refine Upto.one (i := 7) (by kernel_rfl) rfl (fun K hK => ?_)
    go_simp
    refine hK.out _ _ (fun h => absurd rfl h) ?_
    clear hK K
    refine Upto.done (by kernel_rfl) ?_ _
    have HFA := hidden (round_fp (N := LB) (by omega) HBC.out HFP.out RX.out M2.out)
    have FRA := hidden (Fr.round FRR.out (by omega) HBC.out _ M3.out HFP.out 3 (.slice (some ⟨g, 0, none⟩) (j + 1) cap))
    have MA := hidden (M1.out.setCell (g := BO) (j := 3) (fun hm => by have := HFA.out _ hm; omega) (.slice (some ⟨g, 0, none⟩) (j + 1) cap))
    have YA' := hidden (YA.out.set 3 (.slice (some ⟨g, 0, none⟩) (j + 1) cap))
    clear hS hS3 hS4 hS5 r0 YA M1 M2 M3 XOC MX RX HBC HFP HM FRR XO XMM XMC mk FLT
    go_wp2
    go_roundw
    case rel => exact ⟨j + 1, _, fpA, by omega, by go_num, FRA.out, YA'.out, MA.out, HFA.out⟩
    case measure => simp [intOf]; omega
  . have ej : nm = j := by omega
    subst ej
    rw [List.take_of_length_le (by omega)] at hm
    have hlt := hm.lt
    obtain ⟨eM, gM, hvM⟩ := row_shape hm.rd
    rw [hl0] at hvM
    subst hvM
    have KM := hm.own (lo := LB) (hi := wr.heap.size) (fun b hb => ⟨hfp b hb, hlt b hb⟩)
    have xr := fr.box XR2.out (by omega) (by omega)
    have xm := fr.box XM2.out (by omega) (by omega)
    have c9 : wr.cell? ⟨w.heap.size, 9, none⟩ = some (.slice ad nd cd) := xm.cell 9
    obtain ⟨LE, hLE⟩ : ∃ LE, wr.heap.size = LE := ⟨_, rfl⟩
    rw [hLE] at KM hs
    have hLE2 : LE <= wr.heap.size := by omega
    clear hLE
    have XM3 := hidden xm
    have XR3 := hidden xr
    have XO3 := hidden xo
    have KM3 := hidden KM
    have HB3 := hidden hb
    clear fr xo xm hm hfp hlt KM xr hb hj XM2 XR2 XO2 HB2
    go_wp2
    clear c9
    obtain ⟨wo, hwo⟩ : ∃ y, y = wr := ⟨_, rfl⟩
    subst hwo
    go_loopw [29] (fun i wq => ∃ (j : Nat) (v1 : Value) (fp1 : List Nat), j <= nd /\ i = .int .i64 j /\ Fr LE BO wo wq /\ Box wq BO 33 #[.int .i64 x.id, .int .i64 x.n, .int .i64 x.s, .slice eM nm gM, .int .i64 x.lost, .int .i64 x.built, .int .i64 x.seq, .int .i64 x.tail, .int .i64 x.gen, v1, .int .i64 x.fuse, .bool x.down, .bool x.broken] /\ (tWrS 99).Mine wq [v1] (ds.take j) fp1 /\ (∀ b ∈ fp1, LE <= b)) (fun i _ => nd - (intOf i).toNat)
    case atStart => exact ⟨0, _, [], Nat.zero_le _, rfl, Fr.refl _ _ _, XO3.out, nil_mine _, by simp⟩
    case round =>
     obtain ⟨j, v1, fp1, hj, rfl, fr, xo, hm, hfp⟩ := hrel
     have hs3 := fr.size
     have hb := HB3.out.trans (fr.below (M := w.heap.size) (by omega) (by omega))
     by_cases hjn : j < nd
     . rcases pairs_at rfl h1 with h0' | ⟨b, off, rfl, hbl, hcs⟩
       . omega
       have hdj : ds[j]? = some (ds[j]'(by omega)) := List.getElem?_eq_getElem (by omega)
       have htk : ds.take (j + 1) = ds.take j ++ [ds[j]'(by omega)] := List.take_succ_eq_append_getElem (by omega)
       generalize ds[j]'(by omega) = d at hdj htk
       have hil := inner_le' hdj
       obtain ⟨u0, u1, hv0, hv1, hrv⟩ := hcs j d hdj
       obtain ⟨rfl, hrv'⟩ := wr_rd hrv
       obtain ⟨av, cv, rfl⟩ := row_shape hrv'
       have pv0 := (hb.cell (p := ⟨b, off + j * 2, none⟩) hbl).trans hv0
       have pv1 := (hb.cell (p := ⟨b, off + j * 2 + 1, none⟩) hbl).trans hv1
       obtain ⟨x0, x1⟩ := d
       simp only at pv0 pv1 hrv' hil
       have nb := new_below wr (.cells #[.int .i64 x0, .slice av x1.length cv] 99)
       have hzm : (wr.alloc (.cells #[.int .i64 x0, .slice av x1.length cv] 99)).heap.size = wr.heap.size + 1 := by simp
       have HX := hidden (hrv'.below (Below.andThen hb nb))
       have k1 : (0 : Int) <= (j : Int) := by omega
       have k2 : (j : Int) < (nd : Int) := by omega
       have xom := xo.alloc (.cells #[.int .i64 x0, .slice av x1.length cv] 99)
       have xmm := Box.new wr 99 #[.int .i64 x0, .slice av x1.length cv]
       have hmm := hm.alloc (.cells #[.int .i64 x0, .slice av x1.length cv] 99)
       have frm : Fr LE BO wo (wr.alloc (.cells #[.int .i64 x0, .slice av x1.length cv] 99)) := fr.trans (Fr.ofBelow nb (by omega))
       have hlt0 : ∀ b ∈ fp1, b < wr.heap.size := hm.lt
       have HL : Hid ((ds.take j).length = j) := by unfold Hid; rw [List.length_take]; omega
       have L1 : Hid ((ds.take j).length + 1 <= maxLen) := by unfold Hid; rw [HL.out]; unfold maxLen; omega
       have L2 : Hid (((ds.take j).length + 1) * 32 <= 140737488355328) := by unfold Hid; rw [HL.out]; omega
       have HTK := hidden htk
       have FRR := hidden frm
       have HM := hidden hmm
       have HFP := hidden hfp
       have XO := hidden xom
       have XMM := hidden xmm
       have FLT := hidden hlt0
       clear hcs hdj hv0 hv1 hrv hrv' htk xo hm hfp hb fr nb xom xmm hmm frm hlt0
       go_wp2_with fail
       generalize wr.alloc (.cells #[.int .i64 x0, .slice av x1.length cv] 99) = wm at HX FRR HM XO XMM hzm ⊢
       obtain ⟨MB, hMB⟩ : ∃ MB, wr.heap.size = MB := ⟨_, rfl⟩
       rw [hMB] at XMM hzm hs3 FLT ⊢
       clear hMB pv0 pv1
       have zMB : MB < wm.heap.size := by omega
       have zBO : BO < wm.heap.size := by omega
       have hzm2 : MB + 1 <= wm.heap.size := by omega
       clear hzm
       have mk : Hid (∀ w', Box w' BO 33 #[.int .i64 x.id, .int .i64 x.n, .int .i64 x.s, .slice eM nm gM, .int .i64 x.lost, .int .i64 x.built, .int .i64 x.seq, .int .i64 x.tail, .int .i64 x.gen, v1, .int .i64 x.fuse, .bool x.down, .bool x.broken] -> Box w' MB 99 #[.int .i64 x0, .slice av x1.length cv] -> w'.cell? ⟨BO, 9, none⟩ = some (v1) /\ w'.cell? ⟨MB, 0, none⟩ = some (.int .i64 x0) /\ w'.cell? ⟨MB, 1, none⟩ = some (.slice av x1.length cv)) := fun w' h1 h2 => ⟨h1.cell 9, h2.cell 0, h2.cell 1⟩
       have hS : wm.drew.cell? ⟨BO, 9, none⟩ = some (v1) /\ wm.drew.cell? ⟨MB, 0, none⟩ = some (.int .i64 x0) /\ wm.drew.cell? ⟨MB, 1, none⟩ = some (.slice av x1.length cv) := mk.out wm.drew XO.out XMM.out
       refine Upto.start (S := fun w' => w'.cell? ⟨BO, 9, none⟩ = some (v1) /\ w'.cell? ⟨MB, 0, none⟩ = some (.int .i64 x0) /\ w'.cell? ⟨MB, 1, none⟩ = some (.slice av x1.length cv)) (k := 11) (by kernel_rfl) ?_
       refine Upto.t 0 hS ?_
       refine Upto.t 1 hS ?_
       refine Upto.t 2 hS ?_
       refine Upto.t 3 hS ?_
       refine Upto.t 4 hS ?_
       refine Upto.t 5 hS ?_
       refine Upto.one (i := 6) (by kernel_rfl) rfl (fun K hK => ?_)
       go_simp
       refine (copyWords_any _ _ _ _ x1 HX.out.drew (by omega)).mono ?_
       rintro e wc ⟨ac, cc, rfl, ow, bc⟩
       have hbc' : Below wm.heap.size wm wc := (Below.refl wm.heap.size wm).drew.trans bc
       obtain ⟨fpx, mx, rx0⟩ := ow.mine
       have rx : ∀ b ∈ fpx, wm.heap.size <= b /\ b < wc.heap.size := rx0
       have xoc := XO.out.below hbc' zBO
       have xmc := XMM.out.below hbc' zMB
       have hS3 : wc.cell? ⟨BO, 9, none⟩ = some (v1) /\ wc.cell? ⟨MB, 0, none⟩ = some (.int .i64 x0) /\ wc.cell? ⟨MB, 1, none⟩ = some (.slice av x1.length cv) := mk.out wc xoc xmc
       have zc := hbc'.size
       have hS4 : (wc.alloc (.cells #[.int .i64 x0, .slice ac x1.length cc] 99)).cell? ⟨BO, 9, none⟩ = some (v1) /\ (wc.alloc (.cells #[.int .i64 x0, .slice ac x1.length cc] 99)).cell? ⟨MB, 0, none⟩ = some (.int .i64 x0) /\ (wc.alloc (.cells #[.int .i64 x0, .slice ac x1.length cc] 99)).cell? ⟨MB, 1, none⟩ = some (.slice av x1.length cv) := mk.out _ (xoc.alloc _) (xmc.alloc _)
       have XOC := hidden xoc
       have XMC := hidden xmc
       have MX := hidden mx
       have RX := hidden rx
       have HBC := hidden hbc'
       clear xoc xmc mx rx rx0 hbc' bc ow HX
       go_wp2_with fail
       refine hK.out _ _ (fun _ => hS3) ?_
       clear hK K
       refine Upto.t 7 hS3 ?_
       refine Upto.one (i := 8) (by kernel_rfl) rfl (fun K hK => ?_)
       go_simp
       refine hK.out _ _ (fun _ => hS4) ?_
       clear hK K
       refine Upto.one (i := 9) (by kernel_rfl) rfl (fun K hK => ?_)
       refine step_appT tWr (by rfl) _ _ 31 (by rfl) 99 i1 (.agg #[.int .i64 0, .slice none 0 0]) 32 Try.underlying31 hi1 hy0 hy1 hy2 rfl Nat.zero_lt_two v1 (ds.take j) fp1 (by rfl) ?_ ⟨wc.heap.size, 0, none⟩ 1 [.int .i64 x0, .slice ac x1.length cc] (x0, x1) fpx (by rfl) ?_ ?_ ?_ ?_ L1.out L2.out ?_
       . exact (HM.out.below HBC.out).alloc _
       . exact (wr_mine x0 MX.out).alloc _
       . intro b hb hb'
         have h1 := HM.out.lt b hb
         have h2 := RX.out b hb'
         omega
       . exact news_new _ _ _
       . intro u hu
         simp at hu
         rcases hu with hu | hu <;> (rw [hu]; rfl)
       intro g cap wA fpA m1 m2 m3
       rw [HL.out] at m1 ⊢
       rw [← HTK.out] at m1
       have nMB : MB ∉ fp1 := fun hm => by have := FLT.out _ hm; omega
       have ya := (XOC.out.alloc (.cells #[.int .i64 x0, .slice ac x1.length cc] 99)).turned m3 (fun hm => by have := HFP.out _ hm; omega)
       have ym := (XMC.out.alloc (.cells #[.int .i64 x0, .slice ac x1.length cc] 99)).turned m3 nMB
       have hS5 : wA.cell? ⟨BO, 9, none⟩ = some (v1) /\ wA.cell? ⟨MB, 0, none⟩ = some (.int .i64 x0) /\ wA.cell? ⟨MB, 1, none⟩ = some (.slice av x1.length cv) := mk.out wA ya ym
       have r0 := hS5.1
       have fz := ya.frozen 9
       have YA := hidden ya
       have M1 := hidden m1
       have M2 := hidden m2
       have M3 := hidden m3
       clear ya ym m1 m2 m3 nMB
       refine hK.out _ _ (fun _ => hS5) ?_
       clear hK K
       simp only [Act.put, List.setIfInBounds_toArray, List.set_cons_zero, List.set_cons_succ]
       refine Upto.t 10 hS5 ?_
       refine Upto.one (i := 11) (by kernel_rfl) rfl (fun K hK => ?_)
       go_simp
       refine hK.out _ _ (fun h => absurd rfl h) ?_
       clear hK K
       refine Upto.done (by kernel_rfl) ?_ _
       have HFA := hidden (round_fp (N := LE) (by omega) HBC.out HFP.out RX.out M2.out)
       have FRA := hidden (Fr.round FRR.out (by omega) HBC.out _ M3.out HFP.out 9 (.slice (some ⟨g, 0, none⟩) (j + 1) cap))
       have MA := hidden (M1.out.setCell (g := BO) (j := 9) (fun hm => by have := HFA.out _ hm; omega) (.slice (some ⟨g, 0, none⟩) (j + 1) cap))
       have YA' := hidden (YA.out.set 9 (.slice (some ⟨g, 0, none⟩) (j + 1) cap))
       clear hS hS3 hS4 hS5 r0 YA M1 M2 M3 XOC MX RX HBC HFP HM FRR XO XMM XMC mk FLT
       go_wp2
       go_roundw
       case rel => exact ⟨j + 1, _, fpA, by omega, by go_num, FRA.out, YA'.out, MA.out, HFA.out⟩
       case measure => simp [intOf]; omega
     . have ej : nd = j := by omega
       subst ej
       rw [List.take_of_length_le (by omega)] at hm
       have hlt := hm.lt
       obtain ⟨eD, gD, hvD⟩ := row_shape hm.rd
       rw [hl1] at hvD
       subst hvD
       have K1 := hm.own (lo := LE) (hi := wr.heap.size) (fun b hb => ⟨hfp b hb, hlt b hb⟩)
       have K0 := fr.own KM3.out (Nat.le_refl _) (.inr (by omega))
       have xr := fr.box XR3.out (by omega) (by omega)
       have hbt := puts_but BR [(0, .int .i64 x.id), (1, .int .i64 x.n), (2, .int .i64 x.s), (3, .slice eM nm gM), (4, .int .i64 x.lost), (5, .int .i64 x.built), (6, .int .i64 x.seq), (7, .int .i64 x.tail), (8, .int .i64 x.gen), (9, .slice eD nd gD), (10, .int .i64 x.fuse), (11, .bool x.down), (12, .bool x.broken)] wr
       have H0 := K0.but hbt (.inr (by omega))
       have H1 := K1.but hbt (.inr (by omega))
       have HBB := Below.andBut hb hbt (by omega)
       have hsz := hbt.size
       have H0w := hidden (H0.widen (lo' := w.heap.size) (hi' := LE) (by omega) (Nat.le_refl _))
       have H1w := hidden (H1.widen (lo' := LE) (Nat.le_refl _) hsz)
       have HBw := hidden HBB
       have HSZ : Hid (LE <= (puts wr BR [(0, .int .i64 x.id), (1, .int .i64 x.n), (2, .int .i64 x.s), (3, .slice eM nm gM), (4, .int .i64 x.lost), (5, .int .i64 x.built), (6, .int .i64 x.seq), (7, .int .i64 x.tail), (8, .int .i64 x.gen), (9, .slice eD nd gD), (10, .int .i64 x.fuse), (11, .bool x.down), (12, .bool x.broken)]).heap.size) := by unfold Hid; omega
       simp only [puts] at H0w H1w HBw HSZ
       obtain ⟨p0, p1, p2, p3, p4, p5, p6, p7, p8, p9, p10, p11, p12⟩ := xr.cells13
       have fz := xr.frozen
       obtain ⟨r0, r1, r2, r3, r4, r5, r6, r7, r8, r9, r10, r11, r12⟩ := xo.cells13
       have hLw : w.heap.size <= LE := by omega
       clear fr xo hb hm hfp hlt xr K0 K1 hbt H0 H1 HBB hsz hj hs3
       go_wp2
       refine bodyPost_ret (v := .agg #[.int .i64 x.id, .int .i64 x.n, .int .i64 x.s, .slice eM nm gM, .int .i64 x.lost, .int .i64 x.built, .int .i64 x.seq, .int .i64 x.tail, .int .i64 x.gen, .slice eD nd gD, .int .i64 x.fuse, .bool x.down, .bool x.broken]) (by simp [results, Try.results36, go_sem, p0, p1, p2, p3, p4, p5, p6, p7, p8, p9, p10, p11, p12]) rfl ?_
       exact ⟨_, _, _, _, LE, rfl, H0w.out, H1w.out, hLw, HSZ.out, HBw.out⟩

theorem arrOfSuper_any (w : World) (E F : TypeId) (s : Sup) (am : Option Addr) (nm cm : Nat) (ms : List MemD) (h0 : (tMemS E F).Rd w [.slice am nm cm] ms) (hw : wtMemS ms <= 2097152) :
 Calls Try.prog 57 #[.agg #[.int .i64 s.id, .int .i64 s.gen, .int .i64 s.role, .int .i64 s.n, .int .i64 s.s, .int .i64 s.tail, .int .i64 s.lost, .int .i64 s.built], .slice am nm cm] w fun e w' => ArrOut w w' e (arr0 s, ms) [] := by
 obtain ⟨rfl, _⟩ := row_length h0
 have zz : ∀ u : World, ∀ ob : Obj, (u.alloc ob).heap.size = u.heap.size + 1 := fun u ob => by simp
 have hA := ((new_below w (.cells #[.int .i64 s.id, .int .i64 s.gen, .int .i64 s.role, .int .i64 s.n, .int .i64 s.s, .int .i64 s.tail, .int .i64 s.lost, .int .i64 s.built] 80)).alloc (by simp) (.cells #[.int .i64 0, .int .i64 0, .int .i64 0, .slice none 0 0, .int .i64 0, .int .i64 0, .int .i64 0, .int .i64 0, .int .i64 0, .slice none 0 0, .int .i64 0, .bool false, .bool false] 33)).alloc (by simp; omega) (.cells #[.int .i64 s.id, .int .i64 s.n, .int .i64 s.s, .slice am ms.length cm, .int .i64 s.lost, .int .i64 s.built, .int .i64 0, .int .i64 0, .int .i64 0, .slice none 0 0, .int .i64 0, .bool false, .bool false] 33)
 have S0 := ((Box.new w 80 #[.int .i64 s.id, .int .i64 s.gen, .int .i64 s.role, .int .i64 s.n, .int .i64 s.s, .int .i64 s.tail, .int .i64 s.lost, .int .i64 s.built]).alloc (.cells #[.int .i64 0, .int .i64 0, .int .i64 0, .slice none 0 0, .int .i64 0, .int .i64 0, .int .i64 0, .int .i64 0, .int .i64 0, .slice none 0 0, .int .i64 0, .bool false, .bool false] 33)).alloc (.cells #[.int .i64 s.id, .int .i64 s.n, .int .i64 s.s, .slice am ms.length cm, .int .i64 s.lost, .int .i64 s.built, .int .i64 0, .int .i64 0, .int .i64 0, .slice none 0 0, .int .i64 0, .bool false, .bool false] 33)
 have R0 := (Box.new (w.alloc (.cells #[.int .i64 s.id, .int .i64 s.gen, .int .i64 s.role, .int .i64 s.n, .int .i64 s.s, .int .i64 s.tail, .int .i64 s.lost, .int .i64 s.built] 80)) 33 #[.int .i64 0, .int .i64 0, .int .i64 0, .slice none 0 0, .int .i64 0, .int .i64 0, .int .i64 0, .int .i64 0, .int .i64 0, .slice none 0 0, .int .i64 0, .bool false, .bool false]).alloc (.cells #[.int .i64 s.id, .int .i64 s.n, .int .i64 s.s, .slice am ms.length cm, .int .i64 s.lost, .int .i64 s.built, .int .i64 0, .int .i64 0, .int .i64 0, .slice none 0 0, .int .i64 0, .bool false, .bool false] 33)
 have X0 := Box.new ((w.alloc (.cells #[.int .i64 s.id, .int .i64 s.gen, .int .i64 s.role, .int .i64 s.n, .int .i64 s.s, .int .i64 s.tail, .int .i64 s.lost, .int .i64 s.built] 80)).alloc (.cells #[.int .i64 0, .int .i64 0, .int .i64 0, .slice none 0 0, .int .i64 0, .int .i64 0, .int .i64 0, .int .i64 0, .int .i64 0, .slice none 0 0, .int .i64 0, .bool false, .bool false] 33)) 33 #[.int .i64 s.id, .int .i64 s.n, .int .i64 s.s, .slice am ms.length cm, .int .i64 s.lost, .int .i64 s.built, .int .i64 0, .int .i64 0, .int .i64 0, .slice none 0 0, .int .i64 0, .bool false, .bool false]
 rw [zz] at R0
 rw [zz, zz] at X0
 obtain ⟨q0, q1', q2, q3, q4, q5, q6, q7⟩ := S0.cells8
 go_enter Try.func57, Try.ntmps57
 go_upto_region 2 with fail
 generalize ((w.alloc (.cells #[.int .i64 s.id, .int .i64 s.gen, .int .i64 s.role, .int .i64 s.n, .int .i64 s.s, .int .i64 s.tail, .int .i64 s.lost, .int .i64 s.built] 80)).alloc (.cells #[.int .i64 0, .int .i64 0, .int .i64 0, .slice none 0 0, .int .i64 0, .int .i64 0, .int .i64 0, .int .i64 0, .int .i64 0, .slice none 0 0, .int .i64 0, .bool false, .bool false] 33)).alloc (.cells #[.int .i64 s.id, .int .i64 s.n, .int .i64 s.s, .slice am ms.length cm, .int .i64 s.lost, .int .i64 s.built, .int .i64 0, .int .i64 0, .int .i64 0, .slice none 0 0, .int .i64 0, .bool false, .bool false] 33) = w2 at hA S0 R0 X0 q0 q1' q2 q3 q4 q5 q6 q7 ⊢
 have zX := X0.lt
 obtain ⟨SB, hSB⟩ : ∃ SB, w.heap.size = SB := ⟨_, rfl⟩
 obtain ⟨RB, hRB⟩ : ∃ RB, w.heap.size + 1 = RB := ⟨_, rfl⟩
 obtain ⟨AB, hAB⟩ : ∃ AB, w.heap.size + 1 + 1 = AB := ⟨_, rfl⟩
 rw [hAB] at X0 zX ⊢
 rw [hRB] at R0 ⊢
 rw [hSB] at S0 q0 q1' q2 q3 q4 q5 q6 q7 ⊢
 have q1 : w.heap.size <= SB /\ SB < RB /\ RB < AB := by omega
 clear hSB hRB hAB zz
 have n1 : ¬ SB = AB := by omega
 have n2 : ¬ AB = SB := by omega
 have n3 : ¬ RB = AB := by omega
 have n4 : ¬ AB = RB := by omega
 obtain ⟨t0, t1, t2, t3, t4, t5, t6, t7, t8, t9, t10, t11, t12⟩ := X0.cells13
 have fz := X0.frozen
 have hbt : But AB (AB + 1) w2 (((((w2).setCell ⟨AB, 6, none⟩ (.int .i64 s.tail)).setCell ⟨AB, 7, none⟩ (.int .i64 s.tail)).setCell ⟨AB, 8, none⟩ (.int .i64 s.gen)).setCell ⟨AB, 10, none⟩ (.int .i64 (-1))) := (((But.setCell (Nat.le_refl AB) (Nat.lt_succ_self AB) _).trans (But.setCell (Nat.le_refl AB) (Nat.lt_succ_self AB) _)).trans (But.setCell (Nat.le_refl AB) (Nat.lt_succ_self AB) _)).trans (But.setCell (Nat.le_refl AB) (Nat.lt_succ_self AB) _)
 have X1 : Hid (Box (((((w2).setCell ⟨AB, 6, none⟩ (.int .i64 s.tail)).setCell ⟨AB, 7, none⟩ (.int .i64 s.tail)).setCell ⟨AB, 8, none⟩ (.int .i64 s.gen)).setCell ⟨AB, 10, none⟩ (.int .i64 (-1))) AB 33 #[.int .i64 s.id, .int .i64 s.n, .int .i64 s.s, .slice am ms.length cm, .int .i64 s.lost, .int .i64 s.built, .int .i64 s.tail, .int .i64 s.tail, .int .i64 s.gen, .slice none 0 0, .int .i64 (-1), .bool false, .bool false]) := (((X0.set 6 _).set 7 _).set 8 _).set 10 _
 have R1 := hidden (R0.kept (hbt.block _ R0.lt (by omega)))
 have B1 := hidden (Below.andBut hA hbt (by omega))
 have m1 : ∀ w' : World, w'.heap[SB]? = w2.heap[SB]? -> w'.cell? ⟨SB, 5, none⟩ = some (.int .i64 s.tail) /\ w'.cell? ⟨SB, 1, none⟩ = some (.int .i64 s.gen) := fun w' h => ⟨(S0.kept h).cell 5, (S0.kept h).cell 1⟩
 have g0 : w2.drew.cell? ⟨SB, 5, none⟩ = some (.int .i64 s.tail) /\ w2.drew.cell? ⟨SB, 1, none⟩ = some (.int .i64 s.gen) := ⟨q5, q1'⟩
 have hS7 : ((w2).setCell ⟨AB, 6, none⟩ (.int .i64 s.tail)).drew.cell? ⟨SB, 5, none⟩ = some (.int .i64 s.tail) /\ ((w2).setCell ⟨AB, 6, none⟩ (.int .i64 s.tail)).drew.cell? ⟨SB, 1, none⟩ = some (.int .i64 s.gen) := m1 _ (by simp only [World.drew]; rw [Below.heap_setCell _ _ _ _ n1])
 have hS9 : (((w2).setCell ⟨AB, 6, none⟩ (.int .i64 s.tail)).setCell ⟨AB, 7, none⟩ (.int .i64 s.tail)).drew.cell? ⟨SB, 5, none⟩ = some (.int .i64 s.tail) /\ (((w2).setCell ⟨AB, 6, none⟩ (.int .i64 s.tail)).setCell ⟨AB, 7, none⟩ (.int .i64 s.tail)).drew.cell? ⟨SB, 1, none⟩ = some (.int .i64 s.gen) := m1 _ (by simp only [World.drew]; rw [Below.heap_setCell _ _ _ _ n1, Below.heap_setCell _ _ _ _ n1])
 have hS11 : ((((w2).setCell ⟨AB, 6, none⟩ (.int .i64 s.tail)).setCell ⟨AB, 7, none⟩ (.int .i64 s.tail)).setCell ⟨AB, 8, none⟩ (.int .i64 s.gen)).drew.cell? ⟨SB, 5, none⟩ = some (.int .i64 s.tail) /\ ((((w2).setCell ⟨AB, 6, none⟩ (.int .i64 s.tail)).setCell ⟨AB, 7, none⟩ (.int .i64 s.tail)).setCell ⟨AB, 8, none⟩ (.int .i64 s.gen)).drew.cell? ⟨SB, 1, none⟩ = some (.int .i64 s.gen) := m1 _ (by simp only [World.drew]; rw [Below.heap_setCell _ _ _ _ n1, Below.heap_setCell _ _ _ _ n1, Below.heap_setCell _ _ _ _ n1])
 have hS13 : (((((w2).setCell ⟨AB, 6, none⟩ (.int .i64 s.tail)).setCell ⟨AB, 7, none⟩ (.int .i64 s.tail)).setCell ⟨AB, 8, none⟩ (.int .i64 s.gen)).setCell ⟨AB, 10, none⟩ (.int .i64 (-1))).drew.cell? ⟨SB, 5, none⟩ = some (.int .i64 s.tail) /\ (((((w2).setCell ⟨AB, 6, none⟩ (.int .i64 s.tail)).setCell ⟨AB, 7, none⟩ (.int .i64 s.tail)).setCell ⟨AB, 8, none⟩ (.int .i64 s.gen)).setCell ⟨AB, 10, none⟩ (.int .i64 (-1))).drew.cell? ⟨SB, 1, none⟩ = some (.int .i64 s.gen) := m1 _ (by simp only [World.drew]; rw [Below.heap_setCell _ _ _ _ n1, Below.heap_setCell _ _ _ _ n1, Below.heap_setCell _ _ _ _ n1, Below.heap_setCell _ _ _ _ n1])
 refine wp_region_held_drew (S := fun w' => w'.cell? ⟨SB, 5, none⟩ = some (.int .i64 s.tail) /\ w'.cell? ⟨SB, 1, none⟩ = some (.int .i64 s.gen)) (by kernel_rfl) ?_ (fun hHeld => ?_)
 . exact g0
 refine held_t 0 hHeld ?_
 refine held_t 1 hHeld ?_
 refine held_t 2 hHeld ?_
 refine held_t 3 hHeld ?_
 refine held_t 4 hHeld ?_
 refine held_t 5 hHeld ?_
 refine held_t 6 hHeld ?_
 refine held_one (i := 7) (by kernel_rfl) rfl (by kernel_rfl) (fun K hK => ?_)
 go_simp
 clear hHeld
 refine hK.out _ _ ?_ (fun hHeld => ?_)
 . exact hS7
 clear hK K
 refine held_t 8 hHeld ?_
 refine held_one (i := 9) (by kernel_rfl) rfl (by kernel_rfl) (fun K hK => ?_)
 go_simp
 clear hHeld
 refine hK.out _ _ ?_ (fun hHeld => ?_)
 . exact hS9
 clear hK K
 refine held_t 10 hHeld ?_
 refine held_one (i := 11) (by kernel_rfl) rfl (by kernel_rfl) (fun K hK => ?_)
 go_simp
 clear hHeld
 refine hK.out _ _ ?_ (fun hHeld => ?_)
 . exact hS11
 clear hK K
 refine held_t 12 hHeld ?_
 refine held_one (i := 13) (by kernel_rfl) rfl (by kernel_rfl) (fun K hK => ?_)
 go_simp
 clear hHeld
 refine hK.out _ _ ?_ (fun hHeld => ?_)
 . exact hS13
 clear hK K
 clear hHeld
 generalize ((((w2).setCell ⟨AB, 6, none⟩ (.int .i64 s.tail)).setCell ⟨AB, 7, none⟩ (.int .i64 s.tail)).setCell ⟨AB, 8, none⟩ (.int .i64 s.gen)).setCell ⟨AB, 10, none⟩ (.int .i64 (-1)) = w3 at X1 R1 B1 ⊢
 clear q0 q1' q2 q3 q4 q5 q6 q7 t0 t1 t2 t3 t4 t5 t6 t7 t8 t9 t10 t11 t12 fz hbt g0 m1 S0 R0 X0 hA
 refine wpAnyH_done (by kernel_rfl) ?_ _
 clear hS7 hS9 hS11 hS13
 have h1 : (tWrS 99).Rd w3 [.slice none 0 0] [] := (nil_mine (t := tWr) (E := 99) w3).rd
 have p0 := h0.below B1.out
 obtain ⟨t0, t1, t2, t3, t4, t5, t6, t7, t8, t9, t10, t11, t12⟩ := X1.out.cells13
 have zR := R1.out.lt
 have zB := B1.out.size
 go_wp2_with fail
 refine (copyArr_any _ E F 99 (arr0 s) _ _ _ _ _ _ ms [] p0.drew h1.drew (by unfold wtArr; have : wtWrS [] = 0 := rfl; omega)).mono ?_
 rintro e w5 ⟨bm, cm1, bd, cd1, m, rfl, om, od, zm, zm2, b1⟩
 have b1' : Below w3.heap.size w3 w5 := (Below.refl w3.heap.size w3).drew.trans b1
 have R2 := R1.out.below b1' zR
 have B2 := Below.andThen B1.out b1'
 obtain ⟨fm, mm, rm⟩ := om.mine
 obtain ⟨fd, md, rd⟩ := od.mine
 have rm2 : ∀ b ∈ fm, w3.heap.size <= b := fun b hb => (rm b hb).1
 have rd2 : ∀ b ∈ fd, w3.heap.size <= b := fun b hb => by have h2 := (rd b hb).1; have h3 : w3.heap.size <= m := zm; omega
 have HO := hidden (arr_out (y := arr0 s) (ds := []) (vd := bd) (cvd := cd1) (e := .returned (.agg (arrC (arr0 s) _ _))) B2 R2 rfl mm md (fun b hb hb' => by have h1 := rm b hb; have h2 := rd b hb'; omega) rm2 rd2 (by omega) zR)
 unfold arrC at HO
 simp only [puts, List.length_nil] at HO
 obtain ⟨r0, r1, r2, r3, r4, r5, r6, r7, r8, r9, r10, r11, r12⟩ := R2.cells13
 have fz2 := R2.frozen
 clear t0 t1 t2 t3 t4 t5 t6 t7 t8 t9 t10 t11 t12 X1 R1 B1 b1 b1' om od mm md R2 B2 p0 h1
 go_wp2
 refine bodyPost_ret (v := .agg #[.int .i64 (arr0 s).id, .int .i64 (arr0 s).n, .int .i64 (arr0 s).s, .slice bm ms.length cm1, .int .i64 (arr0 s).lost, .int .i64 (arr0 s).built, .int .i64 (arr0 s).seq, .int .i64 (arr0 s).tail, .int .i64 (arr0 s).gen, .slice bd 0 cd1, .int .i64 (arr0 s).fuse, .bool (arr0 s).down, .bool (arr0 s).broken]) (by simp [results, Try.results57, go_sem, r0, r1, r2, r3, r4, r5, r6, r7, r8, r9, r10, r11, r12]) rfl ?_
 exact HO.out

end Go.Proofs.Ytlcjfgmmjkandaa
