/-
  The walk of the specification's l2Copy: the same disk in memory of its own. Condition: it weighs at most 2097152.
-/
import Derived.Test.YtbkkjfgjlapadaaGreatHeld
import Derived.Test.YtbkkjfgjlapadaaGreatFrame
import Derived.Test.YtbkkjfgjlapadaaGreatWalkCopyWords
import Derived.Test.YtbkkjfgjlapadaaGreatOrder
namespace Go.Proofs.YtbkkjfgjlapadaaGreat
open Go.RowKit

set_option maxHeartbeats 8000000 in
theorem l2Copy_any (w : World) (E : TypeId) (a0 a1 a3 : Option Addr) (n0 c0 n1 c1 n3 c3 : Nat) (ss : List (List Int)) (cs : List (Int × List Int)) (f : Bool) (bs : List Int) (h0 : tIntSS.Rd w [.slice a0 n0 c0] ss) (h1 : (tWrS E).Rd w [.slice a1 n1 c1] cs) (h3 : tIntS.Rd w [.slice a3 n3 c3] bs) (hw : wtMem (ss, cs, f, bs) ≤ 2097152) :
    Calls Tryz.prog 191 #[.agg #[.slice a0 n0 c0, .slice a1 n1 c1, .bool f, .slice a3 n3 c3]] w fun e w' => ∃ v0 v1 v3 m1 m2, e = .returned (.agg #[v0, v1, .bool f, v3]) ∧ tIntS.Own w' w.heap.size m1 [v3] bs ∧ tIntSS.Own w' m1 m2 [v0] ss ∧ (tWrS 214).Own w' m2 w'.heap.size [v1] cs ∧ m1 ≤ m2 ∧ w.heap.size ≤ m1 ∧ m2 ≤ w'.heap.size ∧ Below w.heap.size w w' := by
  obtain ⟨hl0, _, hm0⟩ := row_length h0
  obtain ⟨hl1, _, hm1⟩ := row_length h1
  obtain ⟨hl3, _, hm3⟩ := row_length h3
  have hw0 : wtIntSS ss ≤ 2097152 := by unfold wtMem at hw; simp only at hw; omega
  have hw1 : wtWrS cs ≤ 2097152 := by unfold wtMem at hw; simp only at hw; omega
  have hw3 : n3 ≤ 2097152 := by unfold wtMem at hw; simp only at hw; omega
  have hn0 : n0 ≤ 2097152 := by unfold wtIntSS at hw0; omega
  have hn1 : n1 ≤ 2097152 := by unfold wtWrS at hw1; omega
  obtain ⟨i0, hi, hz0, hz1, hz2⟩ := info_parts Tryz.infoIntS
  obtain ⟨i3, hi3, hx0, hx1, hx2⟩ := info_parts Tryz.info3
  obtain ⟨i1, hi1, hy0, hy1, hy2⟩ := info_parts Tryz.infoWr
  have hA : Below w.heap.size w ((w.alloc (.cells #[.slice a0 n0 c0, .slice a1 n1 c1, .bool f, .slice a3 n3 c3] 147)).alloc (.cells #[.slice none 0 0, .slice none 0 0, .bool false, .slice none 0 0] 147)) := ((Below.refl _ _).alloc (Nat.le_refl _) _).alloc (by simp) _
  have xm : Box ((w.alloc (.cells #[.slice a0 n0 c0, .slice a1 n1 c1, .bool f, .slice a3 n3 c3] 147)).alloc (.cells #[.slice none 0 0, .slice none 0 0, .bool false, .slice none 0 0] 147)) w.heap.size 147 #[.slice a0 n0 c0, .slice a1 n1 c1, .bool f, .slice a3 n3 c3] := (Box.new w _ _).alloc _
  have xr : Box ((w.alloc (.cells #[.slice a0 n0 c0, .slice a1 n1 c1, .bool f, .slice a3 n3 c3] 147)).alloc (.cells #[.slice none 0 0, .slice none 0 0, .bool false, .slice none 0 0] 147)) (w.heap.size + 1) 147 #[.slice none 0 0, .slice none 0 0, .bool false, .slice none 0 0] := by
    have := Box.new (w.alloc (.cells #[.slice a0 n0 c0, .slice a1 n1 c1, .bool f, .slice a3 n3 c3] 147)) 147 #[.slice none 0 0, .slice none 0 0, .bool false, .slice none 0 0]
    rw [show (w.alloc (.cells #[.slice a0 n0 c0, .slice a1 n1 c1, .bool f, .slice a3 n3 c3] 147)).heap.size = w.heap.size + 1 by simp] at this
    exact this
  have hsz : ((w.alloc (.cells #[.slice a0 n0 c0, .slice a1 n1 c1, .bool f, .slice a3 n3 c3] 147)).alloc (.cells #[.slice none 0 0, .slice none 0 0, .bool false, .slice none 0 0] 147)).heap.size = w.heap.size + 1 + 1 := by simp
  have HSZ := hidden hsz
  clear hsz
  go_enter Tryz.func191, Tryz.ntmps191
  go_wp2_with fail
  generalize hW : (w.alloc (.cells #[.slice a0 n0 c0, .slice a1 n1 c1, .bool f, .slice a3 n3 c3] 147)).alloc (.cells #[.slice none 0 0, .slice none 0 0, .bool false, .slice none 0 0] 147) = W at hA xm xr HSZ ⊢
  clear hW
  obtain ⟨q0, q1, q2, q3⟩ := xm.cells4
  have zW : w.heap.size < W.heap.size := xm.lt
  have g3 := h3.below hA
  refine' with_key (G := _) (A := fun BO g w6 a5 c5 fp3 => Box w6 w.heap.size 147 #[.slice a0 n0 c0, .slice a1 n1 c1, .bool f, .slice a3 n3 c3] ∧ Box w6 (w.heap.size + 1) 147 #[.slice none 0 0, .slice none 0 0, .bool false, .slice none 0 0] ∧ Box w6 BO 147 #[.slice none 0 0, .slice none 0 0, .bool f, .slice a5 n3 c5] ∧ tIntS.Mine w6 [.slice a5 n3 c5] bs fp3 ∧ Below w.heap.size w w6 ∧ (w.heap.size + 2 ≤ BO ∧ BO < w6.heap.size ∧ ∀ b ∈ fp3, w.heap.size + 2 ≤ b ∧ b < w6.heap.size ∧ b ≠ BO)) ?main (fun key => ?use)
  case use =>
    have sW : w.heap.size + 2 ≤ W.heap.size := by have := HSZ.out; omega
    have hgA : Box (W.alloc (.cells #[] 3)) W.heap.size 3 #[] := Box.new W 3 #[]
    have hgB : Box ((W.alloc (.cells #[] 3)).alloc (.cells #[.slice none 0 0, .slice none 0 0, .bool false, .slice none 0 0] 147)) W.heap.size 3 #[] := hgA.alloc _
    have hgC : Box ((W.alloc (.cells #[.slice none 0 0, .slice none 0 0, .bool false, .slice none 0 0] 147)).alloc (.cells #[] 3)) (W.heap.size + 1) 3 #[] := by
      have := Box.new (W.alloc (.cells #[.slice none 0 0, .slice none 0 0, .bool false, .slice none 0 0] 147)) 3 #[]
      rw [show (W.alloc (.cells #[.slice none 0 0, .slice none 0 0, .bool false, .slice none 0 0] 147)).heap.size = W.heap.size + 1 by simp] at this
      exact this
    have xoB : Box ((W.alloc (.cells #[] 3)).alloc (.cells #[.slice none 0 0, .slice none 0 0, .bool false, .slice none 0 0] 147)) (W.heap.size + 1) 147 #[.slice none 0 0, .slice none 0 0, .bool false, .slice none 0 0] := by
      have := Box.new (W.alloc (.cells #[] 3)) 147 #[.slice none 0 0, .slice none 0 0, .bool false, .slice none 0 0]
      rw [show (W.alloc (.cells #[] 3)).heap.size = W.heap.size + 1 by simp] at this
      exact this
    have xoC : Box ((W.alloc (.cells #[.slice none 0 0, .slice none 0 0, .bool false, .slice none 0 0] 147)).alloc (.cells #[] 3)) W.heap.size 147 #[.slice none 0 0, .slice none 0 0, .bool false, .slice none 0 0] := (Box.new W _ _).alloc _
    have zA : (W.alloc (.cells #[] 3)).heap.size = W.heap.size + 1 := by simp
    have zB : ((W.alloc (.cells #[] 3)).alloc (.cells #[.slice none 0 0, .slice none 0 0, .bool false, .slice none 0 0] 147)).heap.size = W.heap.size + 2 := by simp
    have zC : ((W.alloc (.cells #[.slice none 0 0, .slice none 0 0, .bool false, .slice none 0 0] 147)).alloc (.cells #[] 3)).heap.size = W.heap.size + 2 := by simp
    have ZA := hidden zA
    have ZB := hidden zB
    have ZC := hidden zC
    have HGA : Hid ((W.alloc (.cells #[] 3)).drew.heap[W.heap.size]? = some (.cells #[] 3 (0, 0))) := hgA
    have RDA : Hid (tIntS.Rd (W.alloc (.cells #[] 3)).drew [.slice a3 n3 c3] bs) := (g3.below ((Below.refl _ _).alloc (Nat.le_refl _) _)).drew
    have HGB : Hid (((W.alloc (.cells #[] 3)).alloc (.cells #[.slice none 0 0, .slice none 0 0, .bool false, .slice none 0 0] 147)).drew.heap[W.heap.size]? = some (.cells #[] 3 (0, 0))) := hgB
    have RDB : Hid (tIntS.Rd ((W.alloc (.cells #[] 3)).alloc (.cells #[.slice none 0 0, .slice none 0 0, .bool false, .slice none 0 0] 147)).drew [.slice a3 n3 c3] bs) := (g3.below (((Below.refl _ _).alloc (Nat.le_refl _) _).alloc (by simp) _)).drew
    have HGC : Hid (((W.alloc (.cells #[.slice none 0 0, .slice none 0 0, .bool false, .slice none 0 0] 147)).alloc (.cells #[] 3)).drew.heap[W.heap.size + 1]? = some (.cells #[] 3 (0, 0))) := hgC
    have RDC : Hid (tIntS.Rd ((W.alloc (.cells #[.slice none 0 0, .slice none 0 0, .bool false, .slice none 0 0] 147)).alloc (.cells #[] 3)).drew [.slice a3 n3 c3] bs) := (g3.below (((Below.refl _ _).alloc (Nat.le_refl _) _).alloc (by simp) _)).drew
    have XOB := hidden xoB
    have XOC := hidden xoC
    have XM := hidden xm
    have XR := hidden xr
    have G3 := hidden g3
    clear zA zB zC hgA hgB hgC xoB xoC
    have hS : ∀ w', Box w' w.heap.size 147 #[.slice a0 n0 c0, .slice a1 n1 c1, .bool f, .slice a3 n3 c3] → w'.cell? ⟨w.heap.size, 2, none⟩ = some (.bool f) ∧ w'.cell? ⟨w.heap.size, 3, none⟩ = some (.slice a3 n3 c3) := fun w' hb => ⟨hb.cell 2, hb.cell 3⟩
    have nB : Hid (w.heap.size ≠ W.heap.size + 1) := by unfold Hid; omega
    have nC : Hid (w.heap.size ≠ W.heap.size) := by unfold Hid; omega
    have hD : ∀ w', Box w' w.heap.size 147 #[.slice a0 n0 c0, .slice a1 n1 c1, .bool f, .slice a3 n3 c3] → w'.drew.cell? ⟨w.heap.size, 2, none⟩ = some (.bool f) ∧ w'.drew.cell? ⟨w.heap.size, 3, none⟩ = some (.slice a3 n3 c3) := hS
    go_region_held3 (fun w' => w'.cell? ⟨w.heap.size, 2, none⟩ = some (.bool f) ∧ w'.cell? ⟨w.heap.size, 3, none⟩ = some (.slice a3 n3 c3))
      (first | (with_reducible exact hS w5 XM5.out) | (with_reducible exact hS _ (XM5.out.alloc _)) | (with_reducible exact hS _ ((((XM5.out.other nB.out 0 _).other nB.out 1 _).other nB.out 2 _).other nB.out 3 _)) | (with_reducible exact hS _ ((((XM5.out.other nC.out 0 _).other nC.out 1 _).other nC.out 2 _).other nC.out 3 _)) | (with_reducible exact hD _ XM.out) | (with_reducible exact hD _ (XM.out.alloc _)) | (with_reducible exact hD _ ((XM.out.alloc _).alloc _)) | go_keep)
      (first
        | (refine step_copy (by rfl) _ _ 36 (by rfl) i3 Tryz.underlying36 hi3 hx0 hx1 hx2 W.heap.size (by rfl) (by with_reducible exact HGA.out) a3 n3 c3 bs (by rfl) (by with_reducible exact RDA.out) (by omega) ?_; intro a5 c5 w5 fp3 m3 r3 t3; have t3' : Turned [W.heap.size] (W.alloc (.cells #[] 3)) w5 := Turned.undrew t3; have XM5 := hidden ((XM.out.alloc (.cells #[] 3)).turned t3' (by simp; omega)); have XR5 := hidden ((XR.out.alloc (.cells #[] 3)).turned t3' (by simp; omega)); have T3 := hidden t3'; have M3 := hidden m3; have R3 := hidden r3; clear t3 t3' m3 r3)
        | (refine step_copy (by rfl) _ _ 36 (by rfl) i3 Tryz.underlying36 hi3 hx0 hx1 hx2 W.heap.size (by rfl) (by with_reducible exact HGB.out) a3 n3 c3 bs (by rfl) (by with_reducible exact RDB.out) (by omega) ?_; intro a5 c5 w5 fp3 m3 r3 t3; have t3' : Turned [W.heap.size] ((W.alloc (.cells #[] 3)).alloc (.cells #[.slice none 0 0, .slice none 0 0, .bool false, .slice none 0 0] 147)) w5 := Turned.undrew t3; have XM5 := hidden (((XM.out.alloc (.cells #[] 3)).alloc (.cells #[.slice none 0 0, .slice none 0 0, .bool false, .slice none 0 0] 147)).turned t3' (by simp; omega)); have XR5 := hidden (((XR.out.alloc (.cells #[] 3)).alloc (.cells #[.slice none 0 0, .slice none 0 0, .bool false, .slice none 0 0] 147)).turned t3' (by simp; omega)); have xo5 := XOB.out.turned t3' (by simp); obtain ⟨s0, s1, s2, s3⟩ := xo5.cells4; have u0 := xo5.frozen 0; have u1 := xo5.frozen 1; have u2 := xo5.frozen 2; have u3 := xo5.frozen 3; have XO5 := hidden xo5; have T3 := hidden t3'; have M3 := hidden m3; have R3 := hidden r3; clear t3 t3' m3 r3 xo5)
        | (refine step_copy (by rfl) _ _ 36 (by rfl) i3 Tryz.underlying36 hi3 hx0 hx1 hx2 (W.heap.size + 1) (by rfl) (by with_reducible exact HGC.out) a3 n3 c3 bs (by rfl) (by with_reducible exact RDC.out) (by omega) ?_; intro a5 c5 w5 fp3 m3 r3 t3; have t3' : Turned [W.heap.size + 1] ((W.alloc (.cells #[.slice none 0 0, .slice none 0 0, .bool false, .slice none 0 0] 147)).alloc (.cells #[] 3)) w5 := Turned.undrew t3; have XM5 := hidden (((XM.out.alloc (.cells #[.slice none 0 0, .slice none 0 0, .bool false, .slice none 0 0] 147)).alloc (.cells #[] 3)).turned t3' (by simp; omega)); have XR5 := hidden (((XR.out.alloc (.cells #[.slice none 0 0, .slice none 0 0, .bool false, .slice none 0 0] 147)).alloc (.cells #[] 3)).turned t3' (by simp; omega)); have xo5 := XOC.out.turned t3' (by simp); obtain ⟨s0, s1, s2, s3⟩ := xo5.cells4; have u0 := xo5.frozen 0; have u1 := xo5.frozen 1; have u2 := xo5.frozen 2; have u3 := xo5.frozen 3; have XO5 := hidden xo5; have T3 := hidden t3'; have M3 := hidden m3; have R3 := hidden r3; clear t3 t3' m3 r3 xo5))
    · have hT := T3.out
      have zA := ZA.out
      have zT := hT.size
      have z6 : (w5.alloc (.cells #[.slice none 0 0, .slice none 0 0, .bool f, .slice a5 n3 c5] 147)).heap.size = w5.heap.size + 1 := by simp
      have FM := XM5.out.alloc (.cells #[.slice none 0 0, .slice none 0 0, .bool f, .slice a5 n3 c5] 147)
      have FR := XR5.out.alloc (.cells #[.slice none 0 0, .slice none 0 0, .bool f, .slice a5 n3 c5] 147)
      have FO := Box.new w5 147 #[.slice none 0 0, .slice none 0 0, .bool f, .slice a5 n3 c5]
      have F3 := M3.out.alloc (.cells #[.slice none 0 0, .slice none 0 0, .bool f, .slice a5 n3 c5] 147)
      have FB : Below w.heap.size w (w5.alloc (.cells #[.slice none 0 0, .slice none 0 0, .bool f, .slice a5 n3 c5] 147)) := (((hA.alloc (by omega) (.cells #[] 3)).trans (hT.below (N := w.heap.size) (by omega) (by simp; omega))).alloc (by omega) (.cells #[.slice none 0 0, .slice none 0 0, .bool f, .slice a5 n3 c5] 147))
      have FS : w.heap.size + 2 ≤ w5.heap.size ∧ w5.heap.size < (w5.alloc (.cells #[.slice none 0 0, .slice none 0 0, .bool f, .slice a5 n3 c5] 147)).heap.size ∧ ∀ b ∈ fp3, w.heap.size + 2 ≤ b ∧ b < (w5.alloc (.cells #[.slice none 0 0, .slice none 0 0, .bool f, .slice a5 n3 c5] 147)).heap.size ∧ b ≠ w5.heap.size := ⟨by omega, by omega, fun b hb => by
        obtain ⟨h1, h2⟩ := R3.out b hb
        have h3 : (W.alloc (.cells #[] 3)).drew.heap.size = (W.alloc (.cells #[] 3)).heap.size := rfl
        omega⟩
      have ALL := hidden (And.intro FM (And.intro FR (And.intro FO (And.intro F3 (And.intro FB FS)))))
      clear FM FR FO F3 FB FS hT zA zT z6
      generalize w5.alloc (.cells #[.slice none 0 0, .slice none 0 0, .bool f, .slice a5 n3 c5] 147) = w6 at ALL ⊢
      generalize w5.heap.size = BO at ALL ⊢
      generalize W.heap.size = g
      exact key.out BO g w6 a5 c5 fp3 ALL.out
    · have hT := T3.out
      have zA := ZB.out
      have zT := hT.size
      have hbt : But (W.heap.size + 1) (W.heap.size + 1 + 1) w5 ((((w5.setCell ⟨W.heap.size + 1, 0, none⟩ (.slice none 0 0)).setCell ⟨W.heap.size + 1, 1, none⟩ (.slice none 0 0)).setCell ⟨W.heap.size + 1, 2, none⟩ (.bool f)).setCell ⟨W.heap.size + 1, 3, none⟩ (.slice a5 n3 c5)) :=
        (((But.setCell (by omega) (by omega) _).trans (But.setCell (by omega) (by omega) _)).trans (But.setCell (by omega) (by omega) _)).trans (But.setCell (by omega) (by omega) _)
      have z6 := hbt.size
      have rr : ∀ b ∈ fp3, w.heap.size + 2 ≤ b ∧ b < w5.heap.size ∧ b ≠ W.heap.size + 1 := fun b hb => by
        obtain ⟨h1, h2⟩ := R3.out b hb
        have h3 : ((W.alloc (.cells #[] 3)).alloc (.cells #[.slice none 0 0, .slice none 0 0, .bool false, .slice none 0 0] 147)).drew.heap.size = ((W.alloc (.cells #[] 3)).alloc (.cells #[.slice none 0 0, .slice none 0 0, .bool false, .slice none 0 0] 147)).heap.size := rfl
        omega
      have FM := XM5.out.kept (hbt.block _ (by omega) (by omega))
      have FR := XR5.out.kept (hbt.block _ (by omega) (by omega))
      have FO := (((XO5.out.set 0 (.slice none 0 0)).set 1 (.slice none 0 0)).set 2 (.bool f)).set 3 (.slice a5 n3 c5)
      have F3 := M3.out.but hbt (fun b hb => by have := rr b hb; omega)
      have FB : Below w.heap.size w ((((w5.setCell ⟨W.heap.size + 1, 0, none⟩ (.slice none 0 0)).setCell ⟨W.heap.size + 1, 1, none⟩ (.slice none 0 0)).setCell ⟨W.heap.size + 1, 2, none⟩ (.bool f)).setCell ⟨W.heap.size + 1, 3, none⟩ (.slice a5 n3 c5)) := ((hA.alloc (by omega) (.cells #[] 3)).alloc (by simp; omega) (.cells #[.slice none 0 0, .slice none 0 0, .bool false, .slice none 0 0] 147)).trans ((hT.below (N := w.heap.size) (by omega) (by simp; omega)).trans (hbt.below (by omega) (by omega)))
      have FS : w.heap.size + 2 ≤ W.heap.size + 1 ∧ W.heap.size + 1 < ((((w5.setCell ⟨W.heap.size + 1, 0, none⟩ (.slice none 0 0)).setCell ⟨W.heap.size + 1, 1, none⟩ (.slice none 0 0)).setCell ⟨W.heap.size + 1, 2, none⟩ (.bool f)).setCell ⟨W.heap.size + 1, 3, none⟩ (.slice a5 n3 c5)).heap.size ∧ ∀ b ∈ fp3, w.heap.size + 2 ≤ b ∧ b < ((((w5.setCell ⟨W.heap.size + 1, 0, none⟩ (.slice none 0 0)).setCell ⟨W.heap.size + 1, 1, none⟩ (.slice none 0 0)).setCell ⟨W.heap.size + 1, 2, none⟩ (.bool f)).setCell ⟨W.heap.size + 1, 3, none⟩ (.slice a5 n3 c5)).heap.size ∧ b ≠ W.heap.size + 1 := ⟨by omega, by omega, fun b hb => by have := rr b hb; omega⟩
      have ALL := hidden (And.intro FM (And.intro FR (And.intro FO (And.intro F3 (And.intro FB FS)))))
      clear FM FR FO F3 FB FS hT zA zT z6 rr hbt
      generalize ((((w5.setCell ⟨W.heap.size + 1, 0, none⟩ (.slice none 0 0)).setCell ⟨W.heap.size + 1, 1, none⟩ (.slice none 0 0)).setCell ⟨W.heap.size + 1, 2, none⟩ (.bool f)).setCell ⟨W.heap.size + 1, 3, none⟩ (.slice a5 n3 c5)) = w6 at ALL ⊢
      generalize W.heap.size + 1 = BO at ALL ⊢
      generalize W.heap.size = g
      exact key.out BO g w6 a5 c5 fp3 ALL.out
    · have hT := T3.out
      have zA := ZC.out
      have zT := hT.size
      have hbt : But (W.heap.size) (W.heap.size + 1) w5 ((((w5.setCell ⟨W.heap.size, 0, none⟩ (.slice none 0 0)).setCell ⟨W.heap.size, 1, none⟩ (.slice none 0 0)).setCell ⟨W.heap.size, 2, none⟩ (.bool f)).setCell ⟨W.heap.size, 3, none⟩ (.slice a5 n3 c5)) :=
        (((But.setCell (by omega) (by omega) _).trans (But.setCell (by omega) (by omega) _)).trans (But.setCell (by omega) (by omega) _)).trans (But.setCell (by omega) (by omega) _)
      have z6 := hbt.size
      have rr : ∀ b ∈ fp3, w.heap.size + 2 ≤ b ∧ b < w5.heap.size ∧ b ≠ W.heap.size := fun b hb => by
        obtain ⟨h1, h2⟩ := R3.out b hb
        have h3 : ((W.alloc (.cells #[.slice none 0 0, .slice none 0 0, .bool false, .slice none 0 0] 147)).alloc (.cells #[] 3)).drew.heap.size = ((W.alloc (.cells #[.slice none 0 0, .slice none 0 0, .bool false, .slice none 0 0] 147)).alloc (.cells #[] 3)).heap.size := rfl
        omega
      have FM := XM5.out.kept (hbt.block _ (by omega) (by omega))
      have FR := XR5.out.kept (hbt.block _ (by omega) (by omega))
      have FO := (((XO5.out.set 0 (.slice none 0 0)).set 1 (.slice none 0 0)).set 2 (.bool f)).set 3 (.slice a5 n3 c5)
      have F3 := M3.out.but hbt (fun b hb => by have := rr b hb; omega)
      have FB : Below w.heap.size w ((((w5.setCell ⟨W.heap.size, 0, none⟩ (.slice none 0 0)).setCell ⟨W.heap.size, 1, none⟩ (.slice none 0 0)).setCell ⟨W.heap.size, 2, none⟩ (.bool f)).setCell ⟨W.heap.size, 3, none⟩ (.slice a5 n3 c5)) := ((hA.alloc (by omega) (.cells #[.slice none 0 0, .slice none 0 0, .bool false, .slice none 0 0] 147)).alloc (by simp; omega) (.cells #[] 3)).trans ((hT.below (N := w.heap.size) (by omega) (by simp; omega)).trans (hbt.below (by omega) (by omega)))
      have FS : w.heap.size + 2 ≤ W.heap.size ∧ W.heap.size < ((((w5.setCell ⟨W.heap.size, 0, none⟩ (.slice none 0 0)).setCell ⟨W.heap.size, 1, none⟩ (.slice none 0 0)).setCell ⟨W.heap.size, 2, none⟩ (.bool f)).setCell ⟨W.heap.size, 3, none⟩ (.slice a5 n3 c5)).heap.size ∧ ∀ b ∈ fp3, w.heap.size + 2 ≤ b ∧ b < ((((w5.setCell ⟨W.heap.size, 0, none⟩ (.slice none 0 0)).setCell ⟨W.heap.size, 1, none⟩ (.slice none 0 0)).setCell ⟨W.heap.size, 2, none⟩ (.bool f)).setCell ⟨W.heap.size, 3, none⟩ (.slice a5 n3 c5)).heap.size ∧ b ≠ W.heap.size := ⟨by omega, by omega, fun b hb => by have := rr b hb; omega⟩
      have ALL := hidden (And.intro FM (And.intro FR (And.intro FO (And.intro F3 (And.intro FB FS)))))
      clear FM FR FO F3 FB FS hT zA zT z6 rr hbt
      generalize ((((w5.setCell ⟨W.heap.size, 0, none⟩ (.slice none 0 0)).setCell ⟨W.heap.size, 1, none⟩ (.slice none 0 0)).setCell ⟨W.heap.size, 2, none⟩ (.bool f)).setCell ⟨W.heap.size, 3, none⟩ (.slice a5 n3 c5)) = w6 at ALL ⊢
      generalize W.heap.size + 1 = g
      generalize W.heap.size = BO at ALL ⊢
      exact key.out BO g w6 a5 c5 fp3 ALL.out
  case main =>
    rintro BO g w6 a5 c5 fp3 ⟨fm, fr0, fo, f3, fb, fs⟩
    have FM := hidden fm
    have FR := hidden fr0
    have FO := hidden fo
    have F3 := hidden f3
    have FB := hidden fb
    have FS := hidden fs
    clear fm fr0 fo f3 fb fs
    clear xm xr q0 q1 q2 q3 HSZ zW g3 hA
    obtain ⟨p0, p1, p2, p3⟩ := FM.out.cells4
    obtain ⟨fs1, fs2, fs3⟩ := FS.out
    go_wp2
    go_loopw [4] (fun i wr => ∃ (j : Nat) (v0 : Value) (fp0 : List Nat), j ≤ n0 ∧ i = .int .i64 j ∧ Fr w6.heap.size BO w6 wr ∧ Box wr BO 147 #[v0, .slice none 0 0, .bool f, .slice a5 n3 c5] ∧ tIntSS.Mine wr [v0] (ss.take j) fp0 ∧ (∀ b ∈ fp0, w6.heap.size ≤ b)) (fun i _ => n0 - (intOf i).toNat)
    case atStart => exact ⟨0, _, [], Nat.zero_le _, rfl, Fr.refl _ _ _, FO.out, nil_mine _, by simp⟩
    case round =>
      obtain ⟨j, v0, fp0, hj, rfl, fr, xo, hm, hfp⟩ := hrel
      have hs := fr.size
      have xm := fr.box FM.out (by omega) (by omega)
      have hb := FB.out.trans (fr.below (M := w.heap.size) (by omega) (by omega))
      obtain ⟨q0, q1, q2, q3⟩ := xm.cells4
      by_cases hjn : j < n0
      · rcases rows_at rfl h0 with h0' | ⟨b, off, rfl, hbl, hcs⟩
        · omega
        have hdj : ss[j]? = some (ss[j]'(by omega)) := List.getElem?_eq_getElem (by omega)
        have htk : ss.take (j + 1) = ss.take j ++ [ss[j]'(by omega)] := List.take_succ_eq_append_getElem (by omega)
        generalize ss[j]'(by omega) = x at hdj htk
        have hil := inner_le hdj
        obtain ⟨v, hv, hrv⟩ := hcs j x hdj
        obtain ⟨av, cv, rfl⟩ := row_shape hrv
        have pv := (hb.cell (p := ⟨b, off + j, none⟩) hbl).trans hv
        have HX := hidden (hrv.below hb)
        have k1 : (0 : Int) ≤ (j : Int) := by omega
        have k2 : (j : Int) < (n0 : Int) := by omega
        have HTK := hidden htk
        have XO := hidden xo
        have XMR := hidden xm
        have FRR := hidden fr
        have HM := hidden hm
        have HFP := hidden hfp
        have HL : Hid ((ss.take j).length = j) := by unfold Hid; rw [List.length_take]; omega
        have L1 : Hid ((ss.take j).length + 1 ≤ maxLen) := by unfold Hid; rw [HL.out]; unfold maxLen; omega
        have L2 : Hid (((ss.take j).length + 1) * 24 ≤ 140737488355328) := by unfold Hid; rw [HL.out]; omega
        have mk : Hid (∀ w', Box w' BO 147 #[v0, .slice none 0 0, .bool f, .slice a5 n3 c5] → Box w' w.heap.size 147 #[.slice (some ⟨b, off, none⟩) n0 c0, .slice a1 n1 c1, .bool f, .slice a3 n3 c3] → w'.heap[b]? = wr.heap[b]? → w'.cell? ⟨BO, 0, none⟩ = some (v0) ∧ w'.cell? ⟨w.heap.size, 0, none⟩ = some (.slice (some ⟨b, off, none⟩) n0 c0) ∧ w'.cell? ⟨b, off + j, none⟩ = some (.slice av x.length cv)) := fun w' e1 e2 e3 => ⟨e1.cell 0, e2.cell 0, (World.cell?_of_block e3).trans pv⟩
        have bA : Below wr.heap.size wr (wr.alloc (.cells #[] 3)) := (Below.refl _ _).alloc (Nat.le_refl _) _
        have hS : wr.drew.cell? ⟨BO, 0, none⟩ = some (v0) ∧ wr.drew.cell? ⟨w.heap.size, 0, none⟩ = some (.slice (some ⟨b, off, none⟩) n0 c0) ∧ wr.drew.cell? ⟨b, off + j, none⟩ = some (.slice av x.length cv) := mk.out wr.drew xo xm rfl
        have hS2 : (wr.alloc (.cells #[] 3)).drew.cell? ⟨BO, 0, none⟩ = some (v0) ∧ (wr.alloc (.cells #[] 3)).drew.cell? ⟨w.heap.size, 0, none⟩ = some (.slice (some ⟨b, off, none⟩) n0 c0) ∧ (wr.alloc (.cells #[] 3)).drew.cell? ⟨b, off + j, none⟩ = some (.slice av x.length cv) := mk.out (wr.alloc (.cells #[] 3)).drew (xo.alloc _) (xm.alloc _) (bA.block b (by omega))
        have HG : Hid ((wr.alloc (.cells #[] 3)).drew.heap[wr.heap.size]? = some (.cells #[] 3 (0, 0))) := Box.new wr 3 #[]
        have RD : Hid (tIntS.Rd (wr.alloc (.cells #[] 3)).drew [.slice av x.length cv] x) := (HX.out.below bA).drew
        have BA := hidden bA
        clear hcs hdj hv hrv htk xo xm hm hfp hb fr pv bA
        go_wp2_with fail
        refine Upto.start (S := fun w' => w'.cell? ⟨BO, 0, none⟩ = some (v0) ∧ w'.cell? ⟨w.heap.size, 0, none⟩ = some (.slice (some ⟨b, off, none⟩) n0 c0) ∧ w'.cell? ⟨b, off + j, none⟩ = some (.slice av x.length cv)) (k := 12) (by kernel_rfl) ?_
        refine Upto.t 0 hS ?_
        refine Upto.t 1 hS ?_
        refine Upto.t 3 hS ?_
        refine Upto.t 4 hS ?_
        refine Upto.t 5 hS ?_
        refine Upto.t 6 hS ?_
        refine Upto.t 7 hS ?_
        refine Upto.one (i := 2) (by kernel_rfl) rfl (fun K hK => ?_)
        go_simp
        refine hK.out _ _ (fun _ => hS2) ?_
        clear hK K
        refine Upto.one (i := 8) (by kernel_rfl) rfl (fun K hK => ?_)
        refine step_copy (by rfl) _ _ 36 (by rfl) i3 Tryz.underlying36 hi3 hx0 hx1 hx2 wr.heap.size (by rfl) HG.out av x.length cv x (by rfl) RD.out (by omega) ?_
        intro ac cc wc fpx mx rx tx
        have tx' : Turned [wr.heap.size] (wr.alloc (.cells #[] 3)) wc := Turned.undrew tx
        have zA : (wr.alloc (.cells #[] 3)).heap.size = wr.heap.size + 1 := by simp
        have zd : (wr.alloc (.cells #[] 3)).drew.heap.size = (wr.alloc (.cells #[] 3)).heap.size := rfl
        have hbc' : Below wr.heap.size wr wc := BA.out.trans (tx'.below (N := wr.heap.size) (by omega) (by simp))
        have xoc : Box wc BO 147 _ := XO.out.below hbc' (by omega)
        have xmc : Box wc w.heap.size 147 _ := XMR.out.below hbc' (by omega)
        have hS3 : wc.cell? ⟨BO, 0, none⟩ = some (v0) ∧ wc.cell? ⟨w.heap.size, 0, none⟩ = some (.slice (some ⟨b, off, none⟩) n0 c0) ∧ wc.cell? ⟨b, off + j, none⟩ = some (.slice av x.length cv) := mk.out wc xoc xmc (hbc'.block b (by omega))
        have bB : Below wc.heap.size wc (wc.alloc (.cells #[.slice ac x.length cc] 36)) := (Below.refl _ _).alloc (Nat.le_refl _) _
        have zc := hbc'.size
        have hS4 : (wc.alloc (.cells #[.slice ac x.length cc] 36)).cell? ⟨BO, 0, none⟩ = some (v0) ∧ (wc.alloc (.cells #[.slice ac x.length cc] 36)).cell? ⟨w.heap.size, 0, none⟩ = some (.slice (some ⟨b, off, none⟩) n0 c0) ∧ (wc.alloc (.cells #[.slice ac x.length cc] 36)).cell? ⟨b, off + j, none⟩ = some (.slice av x.length cv) := mk.out _ (xoc.alloc _) (xmc.alloc _) ((bB.block b (by omega)).trans (hbc'.block b (by omega)))
        have RX : Hid (∀ b ∈ fpx, wr.heap.size ≤ b ∧ b < wc.heap.size) := fun b hb => by have := rx b hb; omega
        have XOC := hidden xoc
        have XMC := hidden xmc
        have MX := hidden mx
        have HBC := hidden hbc'
        have BB := hidden (Below.andThen hbc' bB)
        clear xoc xmc mx rx tx tx' hbc' bB zA zd
        refine hK.out _ _ (fun _ => hS3) ?_
        clear hK K
        simp only [Act.put, List.setIfInBounds_toArray, List.set_cons_zero, List.set_cons_succ]
        refine Upto.one (i := 9) (by kernel_rfl) rfl (fun K hK => ?_)
        go_simp
        refine hK.out _ _ (fun _ => hS4) ?_
        clear hK K
        refine Upto.one (i := 10) (by kernel_rfl) rfl (fun K hK => ?_)
        refine step_appT tIntS (by rfl) _ _ 144 (by rfl) 36 i0 (.slice none 0 0) 24 Tryz.underlying144 hi hz0 hz1 hz2 rfl Nat.zero_lt_one v0 (ss.take j) fp0 (by rfl) ?_ ⟨wc.heap.size, 0, none⟩ 1 [.slice ac x.length cc] x fpx (by rfl) ?_ ?_ ?_ ?_ L1.out L2.out ?_
        · exact (HM.out.below HBC.out).alloc _
        · exact MX.out.alloc _
        · intro b hb hb'
          have h1 := HM.out.lt b hb
          have h2 := RX.out b hb'
          omega
        · exact news_new _ _ _
        · intro u hu
          simp at hu
          rw [hu]
          rfl
        intro g cap wA fpA m1 m2 m3
        rw [HL.out] at m1 ⊢
        rw [← HTK.out] at m1
        have ya : Box wA BO 147 _ := (XOC.out.alloc _).turned m3 (fun hm => by have := HFP.out _ hm; omega)
        have ym : Box wA w.heap.size 147 _ := (XMC.out.alloc _).turned m3 (fun hm => by have := HFP.out _ hm; omega)
        have zB : (wc.alloc (.cells #[.slice ac x.length cc] 36)).heap.size = wc.heap.size + 1 := by simp
        have hS5 : wA.cell? ⟨BO, 0, none⟩ = some (v0) ∧ wA.cell? ⟨w.heap.size, 0, none⟩ = some (.slice (some ⟨b, off, none⟩) n0 c0) ∧ wA.cell? ⟨b, off + j, none⟩ = some (.slice av x.length cv) := mk.out wA ya ym ((m3.block b (by omega) (fun hm => by have := HFP.out _ hm; omega)).trans (BB.out.block b (by omega)))
        have r0 := hS5.1
        have fz := ya.frozen 0
        have YA := hidden ya
        have M1 := hidden m1
        have M2 := hidden m2
        have M3 := hidden m3
        clear ya ym m1 m2 m3 zB
        refine hK.out _ _ (fun _ => hS5) ?_
        clear hK K
        simp only [Act.put, List.setIfInBounds_toArray, List.set_cons_zero, List.set_cons_succ]
        refine Upto.t 11 hS5 ?_
        refine Upto.one (i := 12) (by kernel_rfl) rfl (fun K hK => ?_)
        go_simp
        refine hK.out _ _ (fun h => absurd rfl h) ?_
        clear hK K
        refine Upto.done (by kernel_rfl) ?_ _
        have hfA := round_fp (N := w6.heap.size) hs HBC.out HFP.out RX.out M2.out
        have frA := Fr.round FRR.out hs HBC.out _ M3.out HFP.out 0 (.slice (some ⟨g, 0, none⟩) (j + 1) cap)
        have mA := M1.out.setCell (g := BO) (j := 0) (fun hm => by have := hfA _ hm; omega) (.slice (some ⟨g, 0, none⟩) (j + 1) cap)
        have yA := YA.out.set 0 (.slice (some ⟨g, 0, none⟩) (j + 1) cap)
        have HFA := hidden hfA
        have FRA := hidden frA
        have MA := hidden mA
        have YA' := hidden yA
        clear hfA frA mA yA hS hS2 hS3 hS4 hS5 r0 YA M1 M2 M3 XOC MX RX HBC HFP HM FRR XO XMR XMC BA BB mk HG RD HX
        go_wp2
        go_roundw
        case rel => exact ⟨j + 1, _, fpA, by omega, by go_num, FRA.out, YA'.out, MA.out, HFA.out⟩
        case measure => simp [intOf]; omega
      · have e : n0 = j := by omega
        subst e
        rw [List.take_of_length_le (by omega)] at hm
        have hlt := hm.lt
        have GR := hidden (fr.box FR.out (by omega) (by omega))
        have GM := hidden xm
        have GB := hidden hb
        have G3 := hidden (fr.mine F3.out (fun b hb => by have := fs3 b hb; omega))
        have G0 := hidden (hm.own (lo := w6.heap.size) (hi := wr.heap.size) (fun b hb => ⟨hfp b hb, hlt b hb⟩))
        have GO := hidden xo
        clear fr xo xm hb hm hfp hlt FM FO F3 FB FR
        go_wp2
        generalize wr = w7 at hs GM GR GB G3 G0 GO q0 q1 q2 q3 ⊢
        go_loopw [5] (fun i wr => ∃ (j : Nat) (v1 : Value) (fp1 : List Nat), j ≤ n1 ∧ i = .int .i64 j ∧ Fr w7.heap.size BO w7 wr ∧ Box wr BO 147 #[v0, v1, .bool f, .slice a5 n3 c5] ∧ (tWrS 214).Mine wr [v1] (cs.take j) fp1 ∧ (∀ b ∈ fp1, w7.heap.size ≤ b)) (fun i _ => n1 - (intOf i).toNat)
        case atStart => exact ⟨0, _, [], Nat.zero_le _, rfl, Fr.refl _ _ _, GO.out, nil_mine _, by simp⟩
        case round =>
          obtain ⟨j, v1, fp1, hj, rfl, fr, xo, hm, hfp⟩ := hrel
          have hs2 := fr.size
          have xm := fr.box GM.out (by omega) (by omega)
          have hb := GB.out.trans (fr.below (M := w.heap.size) (by omega) (by omega))
          clear q0 q1 q2 q3
          obtain ⟨q0, q1, q2, q3⟩ := xm.cells4
          by_cases hjn : j < n1
          · rcases pairs_at rfl h1 with h0' | ⟨b, off, rfl, hbl, hcs⟩
            · omega
            have hdj : cs[j]? = some (cs[j]'(by omega)) := List.getElem?_eq_getElem (by omega)
            have htk : cs.take (j + 1) = cs.take j ++ [cs[j]'(by omega)] := List.take_succ_eq_append_getElem (by omega)
            generalize cs[j]'(by omega) = x at hdj htk
            have hil := inner_le' hdj
            obtain ⟨u0, u1, hv0, hv1, hrv⟩ := hcs j x hdj
            obtain ⟨rfl, hrv'⟩ := wr_rd hrv
            obtain ⟨av, cv, rfl⟩ := row_shape hrv'
            have pv0 := (hb.cell (p := ⟨b, off + j * 2, none⟩) hbl).trans hv0
            have pv1 := (hb.cell (p := ⟨b, off + j * 2 + 1, none⟩) hbl).trans hv1
            obtain ⟨x0, x1⟩ := x
            simp only at pv0 pv1 hrv' hil
            have HX := hidden (hrv'.below hb)
            have k1 : (0 : Int) ≤ (j : Int) := by omega
            have k2 : (j : Int) < (n1 : Int) := by omega
            have HTK := hidden htk
            have XO := hidden xo
            have XMR := hidden xm
            have FRR := hidden fr
            have HM := hidden hm
            have HFP := hidden hfp
            have HL : Hid ((cs.take j).length = j) := by unfold Hid; rw [List.length_take]; omega
            have L1 : Hid ((cs.take j).length + 1 ≤ maxLen) := by unfold Hid; rw [HL.out]; unfold maxLen; omega
            have L2 : Hid (((cs.take j).length + 1) * 32 ≤ 140737488355328) := by unfold Hid; rw [HL.out]; omega
            have mk : Hid (∀ w', Box w' BO 147 #[v0, v1, .bool f, .slice a5 n3 c5] → Box w' w.heap.size 147 #[.slice a0 n0 c0, .slice (some ⟨b, off, none⟩) n1 c1, .bool f, .slice a3 n3 c3] → w'.heap[b]? = wr.heap[b]? → w'.cell? ⟨BO, 1, none⟩ = some (v1) ∧ w'.cell? ⟨w.heap.size, 1, none⟩ = some (.slice (some ⟨b, off, none⟩) n1 c1) ∧ w'.cell? ⟨b, off + j * 2, none⟩ = some (.int .i64 x0) ∧ w'.cell? ⟨b, off + j * 2 + 1, none⟩ = some (.slice av x1.length cv)) := fun w' e1 e2 e3 => ⟨e1.cell 1, e2.cell 1, (World.cell?_of_block e3).trans pv0, (World.cell?_of_block e3).trans pv1⟩
            have bA : Below wr.heap.size wr (wr.alloc (.cells #[] 3)) := (Below.refl _ _).alloc (Nat.le_refl _) _
            have hS : wr.drew.cell? ⟨BO, 1, none⟩ = some (v1) ∧ wr.drew.cell? ⟨w.heap.size, 1, none⟩ = some (.slice (some ⟨b, off, none⟩) n1 c1) ∧ wr.drew.cell? ⟨b, off + j * 2, none⟩ = some (.int .i64 x0) ∧ wr.drew.cell? ⟨b, off + j * 2 + 1, none⟩ = some (.slice av x1.length cv) := mk.out wr.drew xo xm rfl
            have hS2 : (wr.alloc (.cells #[] 3)).drew.cell? ⟨BO, 1, none⟩ = some (v1) ∧ (wr.alloc (.cells #[] 3)).drew.cell? ⟨w.heap.size, 1, none⟩ = some (.slice (some ⟨b, off, none⟩) n1 c1) ∧ (wr.alloc (.cells #[] 3)).drew.cell? ⟨b, off + j * 2, none⟩ = some (.int .i64 x0) ∧ (wr.alloc (.cells #[] 3)).drew.cell? ⟨b, off + j * 2 + 1, none⟩ = some (.slice av x1.length cv) := mk.out (wr.alloc (.cells #[] 3)).drew (xo.alloc _) (xm.alloc _) (bA.block b (by omega))
            have HG : Hid ((wr.alloc (.cells #[] 3)).drew.heap[wr.heap.size]? = some (.cells #[] 3 (0, 0))) := Box.new wr 3 #[]
            have RD : Hid (tIntS.Rd (wr.alloc (.cells #[] 3)).drew [.slice av x1.length cv] x1) := (HX.out.below bA).drew
            have BA := hidden bA
            clear hcs hdj hv0 hv1 hrv hrv' htk xo xm hm hfp hb fr pv0 pv1 bA
            go_wp2_with fail
            refine Upto.start (S := fun w' => w'.cell? ⟨BO, 1, none⟩ = some (v1) ∧ w'.cell? ⟨w.heap.size, 1, none⟩ = some (.slice (some ⟨b, off, none⟩) n1 c1) ∧ w'.cell? ⟨b, off + j * 2, none⟩ = some (.int .i64 x0) ∧ w'.cell? ⟨b, off + j * 2 + 1, none⟩ = some (.slice av x1.length cv)) (k := 20) (by kernel_rfl) ?_
            refine Upto.t 0 hS ?_
            refine Upto.t 1 hS ?_
            refine Upto.t 2 hS ?_
            refine Upto.t 3 hS ?_
            refine Upto.t 4 hS ?_
            refine Upto.t 5 hS ?_
            refine Upto.t 6 hS ?_
            refine Upto.t 7 hS ?_
            refine Upto.t 9 hS ?_
            refine Upto.t 10 hS ?_
            refine Upto.t 11 hS ?_
            refine Upto.t 12 hS ?_
            refine Upto.t 13 hS ?_
            refine Upto.t 14 hS ?_
            refine Upto.one (i := 8) (by kernel_rfl) rfl (fun K hK => ?_)
            go_simp
            refine hK.out _ _ (fun _ => hS2) ?_
            clear hK K
            refine Upto.one (i := 15) (by kernel_rfl) rfl (fun K hK => ?_)
            refine step_copy (by rfl) _ _ 36 (by rfl) i3 Tryz.underlying36 hi3 hx0 hx1 hx2 wr.heap.size (by rfl) HG.out av x1.length cv x1 (by rfl) RD.out (by omega) ?_
            intro ac cc wc fpx mx rx tx
            have tx' : Turned [wr.heap.size] (wr.alloc (.cells #[] 3)) wc := Turned.undrew tx
            have zA : (wr.alloc (.cells #[] 3)).heap.size = wr.heap.size + 1 := by simp
            have zd : (wr.alloc (.cells #[] 3)).drew.heap.size = (wr.alloc (.cells #[] 3)).heap.size := rfl
            have hbc' : Below wr.heap.size wr wc := BA.out.trans (tx'.below (N := wr.heap.size) (by omega) (by simp))
            have xoc : Box wc BO 147 _ := XO.out.below hbc' (by omega)
            have xmc : Box wc w.heap.size 147 _ := XMR.out.below hbc' (by omega)
            have hS3 : wc.cell? ⟨BO, 1, none⟩ = some (v1) ∧ wc.cell? ⟨w.heap.size, 1, none⟩ = some (.slice (some ⟨b, off, none⟩) n1 c1) ∧ wc.cell? ⟨b, off + j * 2, none⟩ = some (.int .i64 x0) ∧ wc.cell? ⟨b, off + j * 2 + 1, none⟩ = some (.slice av x1.length cv) := mk.out wc xoc xmc (hbc'.block b (by omega))
            have bB : Below wc.heap.size wc (wc.alloc (.cells #[.int .i64 x0, .slice ac x1.length cc] 214)) := (Below.refl _ _).alloc (Nat.le_refl _) _
            have zc := hbc'.size
            have hS4 : (wc.alloc (.cells #[.int .i64 x0, .slice ac x1.length cc] 214)).cell? ⟨BO, 1, none⟩ = some (v1) ∧ (wc.alloc (.cells #[.int .i64 x0, .slice ac x1.length cc] 214)).cell? ⟨w.heap.size, 1, none⟩ = some (.slice (some ⟨b, off, none⟩) n1 c1) ∧ (wc.alloc (.cells #[.int .i64 x0, .slice ac x1.length cc] 214)).cell? ⟨b, off + j * 2, none⟩ = some (.int .i64 x0) ∧ (wc.alloc (.cells #[.int .i64 x0, .slice ac x1.length cc] 214)).cell? ⟨b, off + j * 2 + 1, none⟩ = some (.slice av x1.length cv) := mk.out _ (xoc.alloc _) (xmc.alloc _) ((bB.block b (by omega)).trans (hbc'.block b (by omega)))
            have RX : Hid (∀ b ∈ fpx, wr.heap.size ≤ b ∧ b < wc.heap.size) := fun b hb => by have := rx b hb; omega
            have XOC := hidden xoc
            have XMC := hidden xmc
            have MX := hidden mx
            have HBC := hidden hbc'
            have BB := hidden (Below.andThen hbc' bB)
            clear xoc xmc mx rx tx tx' hbc' bB zA zd
            refine hK.out _ _ (fun _ => hS3) ?_
            clear hK K
            simp only [Act.put, List.setIfInBounds_toArray, List.set_cons_zero, List.set_cons_succ]
            refine Upto.t 16 hS3 ?_
            refine Upto.one (i := 17) (by kernel_rfl) rfl (fun K hK => ?_)
            go_simp
            refine hK.out _ _ (fun _ => hS4) ?_
            clear hK K
            refine Upto.one (i := 18) (by kernel_rfl) rfl (fun K hK => ?_)
            refine step_appT tWr (by rfl) _ _ 145 (by rfl) 214 i1 (.agg #[.int .i64 0, .slice none 0 0]) 32 Tryz.underlying145 hi1 hy0 hy1 hy2 rfl Nat.zero_lt_two v1 (cs.take j) fp1 (by rfl) ?_ ⟨wc.heap.size, 0, none⟩ 1 [.int .i64 x0, .slice ac x1.length cc] (x0, x1) fpx (by rfl) ?_ ?_ ?_ ?_ L1.out L2.out ?_
            · exact (HM.out.below HBC.out).alloc _
            · exact (wr_mine x0 MX.out).alloc _
            · intro b hb hb'
              have h1 := HM.out.lt b hb
              have h2 := RX.out b hb'
              omega
            · exact news_new _ _ _
            · intro u hu
              simp at hu
              rcases hu with hu | hu <;> (rw [hu]; rfl)
            intro g cap wA fpA m1 m2 m3
            rw [HL.out] at m1 ⊢
            rw [← HTK.out] at m1
            have ya : Box wA BO 147 _ := (XOC.out.alloc _).turned m3 (fun hm => by have := HFP.out _ hm; omega)
            have ym : Box wA w.heap.size 147 _ := (XMC.out.alloc _).turned m3 (fun hm => by have := HFP.out _ hm; omega)
            have zB : (wc.alloc (.cells #[.int .i64 x0, .slice ac x1.length cc] 214)).heap.size = wc.heap.size + 1 := by simp
            have hS5 : wA.cell? ⟨BO, 1, none⟩ = some (v1) ∧ wA.cell? ⟨w.heap.size, 1, none⟩ = some (.slice (some ⟨b, off, none⟩) n1 c1) ∧ wA.cell? ⟨b, off + j * 2, none⟩ = some (.int .i64 x0) ∧ wA.cell? ⟨b, off + j * 2 + 1, none⟩ = some (.slice av x1.length cv) := mk.out wA ya ym ((m3.block b (by omega) (fun hm => by have := HFP.out _ hm; omega)).trans (BB.out.block b (by omega)))
            have r0 := hS5.1
            have fz := ya.frozen 1
            have YA := hidden ya
            have M1 := hidden m1
            have M2 := hidden m2
            have M3 := hidden m3
            clear ya ym m1 m2 m3 zB
            refine hK.out _ _ (fun _ => hS5) ?_
            clear hK K
            simp only [Act.put, List.setIfInBounds_toArray, List.set_cons_zero, List.set_cons_succ]
            refine Upto.t 19 hS5 ?_
            refine Upto.one (i := 20) (by kernel_rfl) rfl (fun K hK => ?_)
            go_simp
            refine hK.out _ _ (fun h => absurd rfl h) ?_
            clear hK K
            refine Upto.done (by kernel_rfl) ?_ _
            have hfA := round_fp (N := w7.heap.size) hs2 HBC.out HFP.out RX.out M2.out
            have frA := Fr.round FRR.out hs2 HBC.out _ M3.out HFP.out 1 (.slice (some ⟨g, 0, none⟩) (j + 1) cap)
            have mA := M1.out.setCell (g := BO) (j := 1) (fun hm => by have := hfA _ hm; omega) (.slice (some ⟨g, 0, none⟩) (j + 1) cap)
            have yA := YA.out.set 1 (.slice (some ⟨g, 0, none⟩) (j + 1) cap)
            have HFA := hidden hfA
            have FRA := hidden frA
            have MA := hidden mA
            have YA' := hidden yA
            clear hfA frA mA yA hS hS2 hS3 hS4 hS5 r0 YA M1 M2 M3 XOC MX RX HBC HFP HM FRR XO XMR XMC BA BB mk HG RD HX
            go_wp2
            go_roundw
            case rel => exact ⟨j + 1, _, fpA, by omega, by go_num, FRA.out, YA'.out, MA.out, HFA.out⟩
            case measure => simp [intOf]; omega
          · have e : n1 = j := by omega
            subst e
            rw [List.take_of_length_le (by omega)] at hm
            have hlt := hm.lt
            have xr := fr.box GR.out (by omega) (by omega)
            obtain ⟨p0, p1, p2, p3⟩ := xr.cells4
            have fz := xr.frozen
            obtain ⟨r0, r1, r2, r3⟩ := xo.cells4
            have K3 := fr.mine G3.out (fun b hb => by have := fs3 b hb; omega)
            have K0 := fr.own G0.out (by omega) (by omega)
            have K1 := hm.own (lo := w7.heap.size) (hi := wr.heap.size) (fun b hb => ⟨hfp b hb, hlt b hb⟩)
            have KB := GB.out.trans (fr.below (M := w.heap.size) (by omega) (by omega))
            obtain ⟨e0, g0, hv0⟩ := row_shape K0.rd
            obtain ⟨e1, g1, hv1⟩ := row_shape K1.rd
            rw [hl0] at hv0
            rw [hl1] at hv1
            subst hv0 hv1
            have hbt : But (w.heap.size + 1) (w.heap.size + 2) wr ((((wr.setCell ⟨w.heap.size + 1, 0, none⟩ (.slice e0 n0 g0)).setCell ⟨w.heap.size + 1, 1, none⟩ (.slice e1 n1 g1)).setCell ⟨w.heap.size + 1, 2, none⟩ (.bool f)).setCell ⟨w.heap.size + 1, 3, none⟩ (.slice a5 n3 c5)) :=
              (((But.setCell (by omega) (by omega) _).trans (But.setCell (by omega) (by omega) _)).trans (But.setCell (by omega) (by omega) _)).trans (But.setCell (by omega) (by omega) _)
            have H3 := hidden ((K3.but hbt (fun b hb => by have := fs3 b hb; omega)).own (lo := w.heap.size) (hi := w6.heap.size) (fun b hb => by have := fs3 b hb; omega))
            have H0 := hidden (K0.but hbt (by omega))
            have H1 := hidden (K1.but hbt (by omega))
            have HB := hidden (Below.andBut KB hbt (by omega))
            have hsz := hbt.size
            clear fr xo xm hb hm hfp hlt xr K3 K0 K1 KB hbt GM GR GB G3 G0 GO
            go_wp2
            refine bodyPost_ret (v := .agg #[.slice e0 n0 g0, .slice e1 n1 g1, .bool f, .slice a5 n3 c5]) (by simp [results, Tryz.results191, go_sem, p0, p1, p2, p3]) rfl ?_
            exact ⟨_, _, _, w6.heap.size, w7.heap.size, rfl, H3.out, H0.out, H1.out.widen (Nat.le_refl _) hsz, by omega, by omega, by omega, HB.out⟩

end Go.Proofs.YtbkkjfgjlapadaaGreat
